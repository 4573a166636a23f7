import PyProof.Rows.All
import Wide.All
import OpenK.AllK
import Wide.FinOn
import HandS.ForMost
import HandS.ForExc
import HandS.Wide
import HandS.WideMore
import HandS.WideBits
import HandS.EndBits
import HandS.IsInst
import HandS.ExcIs
import HandS.HotCalls
import HandS.StrMore
import HandS.Style
import HandS.TupAny
import HandS.SortInts
import HandS.SortKw
import HandS.Walk
import HandS.SortRule
import HandS.TupLe
import HandS.Codes
import KE.GoesEnum
import HandS.DictComp
import HandS.Conv
import HandS.Strs
import HandS.Deep
import HandS.Replace
import HandS.ReplaceDef
import HandS.ReplaceLit
import PySem.Challenge.RW_corebank_k26_letter_read_back
set_option Elab.async false
set_option linter.all false
set_option maxRecDepth 100000
set_option maxHeartbeats 4000000
/-! What all the proofs share: the library's errors, lists joined, the def that tells an error's kinds. -/
namespace Kv
open PySem PySem.Spec PyProof.Rows L2
abbrev Frag := PySem.W.Frag
inductive Er where
  | badValue | badDay | missing | refused | full | notAllowed | damaged
  deriving DecidableEq
def Er.nm : Er → Str
  | .badValue => "BadValue" | .badDay => "BadDay" | .missing => "Missing" | .refused => "Refused" | .full => "Full" | .notAllowed => "NotAllowed" | .damaged => "Damaged"
def Er.every : List Er := [.badValue, .badDay, .missing, .refused, .full, .notAllowed, .damaged]
theorem Er.mem (e : Er) : e ∈ Er.every := by cases e <;> decide
abbrev veChain : List Value := [.type "ValueError", .type "Exception", .type "BaseException", .type "object"]
/-- what the written part must say of one error class -/
def errOne (K : Frag) (a : Er → Addr) (b : Addr) (e : Er) : Bool :=
  PySem.W.excIn K (a e) veChain "ValueError.__new__" && PySem.W.keepIn K (.ref (a e)) && (PySem.W.subIn K (.ref (a e)) (.type "BaseException") == some true) && (PySem.W.typeIn K (.ref (a e)) == some (.type "type")) &&
  (PySem.W.findIn K (.ref (a e)) "__getattribute__" == some (some (.builtin "BaseException.__getattribute__"))) && (PySem.W.findIn K (.ref (a e)) "__getattr__" == some none) && PySem.W.hasDictIn K (a e) &&
  (PySem.W.findIn K (.ref (a e)) "__class__" == some (some (.builtin "object.__class__"))) && (PySem.W.mroIn K (a e) (.type "object") == some true) && (PySem.W.exmOne K (.ref (a e)) (.ref b) == some true) &&
  Er.every.all fun d => PySem.W.kitOne K (.ref (a e)) (.ref (a d)) == some (decide (e = d))
def errAll (K : Frag) (a : Er → Addr) (b : Addr) : Bool :=
  (PySem.W.specialIn K (.builtin "object.__class__") "__get__" == some (some (.builtin "getset_descriptor.__get__"))) && (PySem.W.takesIn K (.builtin "object.__class__") == some true) && Er.every.all (errOne K a b)
structure Errs (K : Frag) (mg : Str → Option Value) where
  exa : Er → Addr
  exg : ∀ e, mg e.nm = some (.ref (exa e))
  a_BankError : Addr
  g_BankError : mg "BankError" = some (.ref a_BankError)
  exAll : errAll K exa a_BankError = true
namespace Errs
variable {K : Frag} {mg : Str → Option Value} (T : Errs K mg)
theorem one (e : Er) : errOne K T.exa T.a_BankError e = true := by
  have h := T.exAll
  unfold errAll at h
  simp only [Bool.and_eq_true, List.all_eq_true] at h
  exact h.2 e e.mem
theorem split (e : Er) : PySem.W.excIn K (T.exa e) veChain "ValueError.__new__" = true ∧ PySem.W.keepIn K (.ref (T.exa e)) = true ∧ PySem.W.subIn K (.ref (T.exa e)) (.type "BaseException") = some true ∧ PySem.W.typeIn K (.ref (T.exa e)) = some (.type "type") ∧
    ExcC K (T.exa e) ∧ PySem.W.exmOne K (.ref (T.exa e)) (.ref T.a_BankError) = some true ∧ ∀ d, PySem.W.kitOne K (.ref (T.exa e)) (.ref (T.exa d)) = some (decide (e = d)) := by
  have h := T.one e
  have g := T.exAll
  unfold errOne at h
  unfold errAll at g
  simp only [Bool.and_eq_true, List.all_eq_true, beq_iff_eq] at h g
  obtain ⟨⟨⟨⟨⟨⟨⟨⟨⟨⟨h1, h2⟩, h3⟩, h4⟩, h5⟩, h6⟩, h7⟩, h8⟩, h9⟩, h10⟩, h11⟩ := h
  exact ⟨h1, h2, h3, h4, ⟨h5, h6, h3, h7, h8, g.1.1, g.1.2, h9⟩, h10, fun d => h11 d d.mem⟩
theorem exx (e : Er) : PySem.W.excIn K (T.exa e) veChain "ValueError.__new__" = true := (T.split e).1
theorem exk (e : Er) : PySem.W.keepIn K (.ref (T.exa e)) = true := (T.split e).2.1
theorem exb (e : Er) : PySem.W.subIn K (.ref (T.exa e)) (.type "BaseException") = some true := (T.split e).2.2.1
theorem ext (e : Er) : PySem.W.typeIn K (.ref (T.exa e)) = some (.type "type") := (T.split e).2.2.2.1
theorem exc (e : Er) : ExcC K (T.exa e) := (T.split e).2.2.2.2.1
theorem exm (e : Er) : PySem.W.exmOne K (.ref (T.exa e)) (.ref T.a_BankError) = some true := (T.split e).2.2.2.2.2.1
theorem exi (e d : Er) : PySem.W.kitOne K (.ref (T.exa e)) (.ref (T.exa d)) = some (decide (e = d)) := (T.split e).2.2.2.2.2.2 d
end Errs

/-- .. where the text has some of the classes alone -/
def errAllP (K : Frag) (a : Er → Addr) (b : Addr) (es : List Er) : Bool :=
  (PySem.W.specialIn K (.builtin "object.__class__") "__get__" == some (some (.builtin "getset_descriptor.__get__"))) && (PySem.W.takesIn K (.builtin "object.__class__") == some true) && es.all fun e =>
  PySem.W.excIn K (a e) veChain "ValueError.__new__" && PySem.W.keepIn K (.ref (a e)) && (PySem.W.subIn K (.ref (a e)) (.type "BaseException") == some true) && (PySem.W.typeIn K (.ref (a e)) == some (.type "type")) &&
  (PySem.W.exmOne K (.ref (a e)) (.ref b) == some true)
structure ErrsP (K : Frag) (mg : Str → Option Value) (es : List Er) where
  exa : Er → Addr
  exgP : ∀ e, e ∈ es → mg e.nm = some (.ref (exa e))
  a_BankError : Addr
  g_BankError : mg "BankError" = some (.ref a_BankError)
  exAll : errAllP K exa a_BankError es = true
namespace ErrsP
variable {K : Frag} {mg : Str → Option Value} {es : List Er} (T : ErrsP K mg es)
theorem split (e : Er) (he : e ∈ es) : PySem.W.excIn K (T.exa e) veChain "ValueError.__new__" = true ∧ PySem.W.keepIn K (.ref (T.exa e)) = true ∧ PySem.W.subIn K (.ref (T.exa e)) (.type "BaseException") = some true ∧ PySem.W.typeIn K (.ref (T.exa e)) = some (.type "type") ∧
    PySem.W.exmOne K (.ref (T.exa e)) (.ref T.a_BankError) = some true := by
  have g := T.exAll
  unfold errAllP at g
  simp only [Bool.and_eq_true, List.all_eq_true, beq_iff_eq] at g
  obtain ⟨⟨⟨⟨h1, h2⟩, h3⟩, h4⟩, h5⟩ := g.2 e he
  exact ⟨h1, h2, h3, h4, h5⟩
theorem exg (e : Er) (he : e ∈ es := by decide) : mg e.nm = some (.ref (T.exa e)) := T.exgP e he
theorem exx (e : Er) (he : e ∈ es := by decide) : PySem.W.excIn K (T.exa e) veChain "ValueError.__new__" = true := (T.split e he).1
theorem exk (e : Er) (he : e ∈ es := by decide) : PySem.W.keepIn K (.ref (T.exa e)) = true := (T.split e he).2.1
theorem exb (e : Er) (he : e ∈ es := by decide) : PySem.W.subIn K (.ref (T.exa e)) (.type "BaseException") = some true := (T.split e he).2.2.1
theorem ext (e : Er) (he : e ∈ es := by decide) : PySem.W.typeIn K (.ref (T.exa e)) = some (.type "type") := (T.split e he).2.2.2.1
theorem exm (e : Er) (he : e ∈ es := by decide) : PySem.W.exmOne K (.ref (T.exa e)) (.ref T.a_BankError) = some true := (T.split e he).2.2.2.2
end ErrsP

/-! ### two lists joined, whatever may be read of them -/
section
variable {X : Cx}
def rCatS (K : Frag) : R2 := fun x y H Q => ∃ l b xs zs, x = .ref l ∧ y = .ref b ∧ SqL K H l xs ∧ SqL K H b zs ∧ xs.length + zs.length ≤ sizeLine ∧ ∀ p, H p = none → Q (.ref p) (upd H p (.lst (xs ++ zs)))
theorem op_catS : OpR X (binaryOp .Add) (rCatS X.K) := by
  intro pins s σ H x y v u Q I rx ry h
  obtain ⟨l, b, xs, zs, e1, e2, hl, hb, hz, q⟩ := h
  subst e1 e2
  cases rx
  cases ry
  obtain ⟨i1, r1, p1, z1⟩ := I.list hl
  obtain ⟨i2, r2, p2, z2⟩ := I.list hb
  obtain ⟨⟨c1, d1, t1, w1⟩, n1, g1, k1, m1, j1⟩ := p1
  obtain ⟨⟨c2, d2, t2, w2⟩, n2, g2, k2, m2, j2⟩ := p2
  dsimp only at k1 m1 j1 k2 m2 j2
  subst k1 m1 j1 k2 m2 j2
  have l1 := r1.length
  have l2 := r2.length
  have fits : i1.toArray.size + i2.toArray.size ≤ sizeLine := by
    rw [List.size_toArray, List.size_toArray]
    omega
  have joined : i1.toArray ++ i2.toArray = (i1 ++ i2).toArray := by simp
  have meets := list_addW l b i1.toArray i2.toArray n1 n2 none none w1 w2 fits
  refine concat_meets (s := s) ⟨_, g1, rfl⟩ ⟨_, g2, rfl⟩ noFill_list_add seq_list_add
    PySem.F.slot_list_add PySem.F.entry_list_add (PySem.F.args_list_add_2 _ _) meets ⟨g1, g2, ?_⟩
  rw [joined]
  exact ⟨.ref _, _, I.lnew (t' := s.toks) (r1.append r2) (by rw [List.length_append]; exact hz), rfl, q _ I.fresh⟩
end

/-! ### a def that is handed the error which a suite holds, and tells its kind -/
section
variable {P : Program} {w : World} {K : Frag} {mg : Str → Option Value} {base : Heap}
structure KindsOk (P : Program) (w : World) (K : Frag) (mg : Str → Option Value) (base : Heap) (T : Errs K mg) (lv : Nat) (f : Addr) (fd : FuncData) (pn : Str := "error") : Prop where
  run : ∀ (A : Around) (outer : List Env) (s : Shared) (H : Hp) (args : Args) (us : List Value) (Q : VK) (p : Addr × Obj) (er : Er), L2H.RoomH lv A → L2H.PinOk outer H s p → Zc (.ref (T.exa er)) none p.2 → (∃ vs, p.2.data = .fields vs) →
    Env0 P w K mg base A outer s H → BindsTo s fd args (([pn] : List Str).zip us) → Vals [.ref p.1] us → (∀ q, H q = none → Q (.ref q) (upd H q (.lst [.str er.nm]))) →
    codeAny (model P w) A (.call (.ref f) args) (CR CX0 outer P w H s Q E0) s
/-- isinstance of an error that every state bears -/
def rIsP (K : Frag) (D a : Addr) : List V → Hp → VK → Prop := fun xs H Q => ∃ (C : Addr) (b : Bool), xs = [.ref a, .ref C] ∧ PySem.W.kitOne K (.ref D) (.ref C) = some b ∧ Q (.bl b) H
theorem call_isP {X : Cx} {D : Addr} {p : Addr × Obj} (hp : p ∈ X.pn) (C : ExcC X.K D) (hz : Zc (.ref D) none p.2) (hf : ∃ vs, p.2.data = .fields vs) : CallR X (.builtin "isinstance") (rIsP X.K D p.1) := by
  intro pins s σ H xs us Q I r h
  obtain ⟨c, b, e1, e, q⟩ := h
  subst e1
  cases r with
  | cons rx rr =>
    cases rr with
    | cons rt rr2 =>
      cases rr2
      cases rx
      cases rt
      have hget := (I.pin p (List.mem_append.mpr (.inl hp))).1
      have J : PySem.W.InstAt s.heap p.1 p.2 D none := by
        obtain ⟨pa, oc, od, oda, osl⟩ := p
        obtain ⟨vs, hv⟩ := hf
        obtain ⟨h1, h2⟩ := hz
        dsimp only at h1 h2 hv hget ⊢
        subst h1 h2 hv
        exact ⟨hget, rfl, rfl, trivial⟩
      have kit := PySem.W.handS_kitx_exc C.hg C.hk C.hs C.hd C.ha C.hn C.ht C.hm (x := p.1) (ox := p.2)
      exact PySem.W.kia_one kit I.kIn J e (fun z => nomatch z) fun tk => ⟨.bl b, H, I.kept (t' := tk) fun _ _ z => z, rfl, q⟩
/-- such a def by its body -/
theorem kinds_of {nm pn : Str} {T : Errs K mg} {lv : Nat} {f : Addr} {fd : FuncData} {st : Stmt} {N : List Str} (F : Fun K nm nm st f fd) (S : FnScope N [pn] (defScope st))
    (hb : ∀ (cdv : Value) (A : Around) (outer : List Env) (s : Shared) (H : Hp) (Q : VK) (p : Addr × Obj) (er : Er), Zc (.ref (T.exa er)) none p.2 → (∃ vs, p.2.data = .fields vs) → (∀ q, H q = none → Q (.ref q) (upd H q (.lst [.str er.nm]))) →
      ∃ t, PSs (L2H.cxH CX0 P w K mg base N nm (defScope st) f cdv A outer s H E0 p) (defBody st) t ∧ t { nx := fun _ H' => Q .non H', rt := Q } (start N [.ref p.1]) H) :
    KindsOk P w K mg base T (lv + 1) f fd pn := by
  obtain ⟨oc, od, kV, doc, pm, an, cdv, ct, osl, rfl, lk, hcd⟩ := F.ex
  refine ⟨fun A outer s H args us Q p er hr hpin hz hf e0 hbi r hk => ?_⟩
  have KX : K.In s.heap := e0.mod.kin.keeps fun b o e => (e0.bs b o e).1
  have lim : s.heap.NoLimit := e0.mod.nolimit.keeps fun b o e => (e0.bs b o e).1
  have kinds : ∀ y ∈ ([pn] : List Str).zip us, (defScope st).names.lookup y.1 = some .local ∨ ((defScope st).names.lookup y.1 = some .cell ∧ ((cellsFrom (s.heap.objs.size + 1) (defScope st).names []).lookup y.1).isSome = true) := by
    intro ⟨n, v⟩ hy
    rcases S.par n (List.of_mem_zip hy).1 with z | z
    · exact .inl z
    · exact .inr ⟨z, PySem.W.cellsFrom_some _ _ _ (.inl z)⟩
  refine codeAny_call_function hr.depth (KX _ _ lk) rfl S.co S.gen rfl (PySem.W.codeRec_of KX hcd) (hbi _ _ _ _ ?_)
  refine wpAny_newFunctionEnv_cells S.kind kinds fun env he s1 x => ?_
  subst he
  refine ⟨lim.keeps x.toInCall.keep, codeAny_func ?_⟩
  obtain ⟨t, ht, hq⟩ := hb cdv A outer s H Q p er hz hf hk
  have I := L2H.inv_startH (CX := CX0) (E := E0) S hpin e0 (show ([.ref p.1] : List V).length = ([pn] : List Str).length from rfl) r x
  refine wpAny_mono (ht.run [] s1 _ H _ I hq) (fun fl s' hs => ?_) fun e s' hs => hs
  have fin : ∀ {σ' : L2.St} {H' : Hp} {v : V} {u : Value}, Inv _ [] σ' H' s' → RelV v u → Q v H' → CE outer P w H s Q u s' :=
    fun {σ' H' v u} (J : Inv (L2H.cxH CX0 P w K mg base N nm (defScope st) f cdv A outer s H E0 p) [] σ' H' s') rv qq => ⟨v, H', J.os, J.bare, J.base, J.hok, rv, qq⟩
  cases fl with
  | next =>
    obtain ⟨σ', H', J, qq⟩ := hs
    exact fin (v := V.non) (u := Value.none) J rfl qq
  | ret u =>
    obtain ⟨v, σ', H', J, rv, qq⟩ := hs
    exact fin J rv qq
  | brk =>
    obtain ⟨_, _, _, qq⟩ := hs
    exact qq.elim
  | cont =>
    obtain ⟨_, _, _, qq⟩ := hs
    exact qq.elim
end
section
variable {X : Cx} {CX : CXT} {f : Addr} {fd : FuncData} {lv : Nat} {x : Str} {q pos : Pos} {e : Expr} {te : TE}
/-- kinds(e), e the error that the suite holds -/
def tKinds {K : Frag} {mg : Str → Option Value} (T : Errs K mg) (cls : Value) (d : Option Addr) (a : Addr) (ta : TA) : TE := fun σ H Q => ta σ H fun vs H1 => vs = [.ref a] ∧ d = none ∧ ∃ er, cls = .ref (T.exa er) ∧ ∀ r, H1 r = none → Q (.ref r) (upd H1 r (.lst [.str er.nm]))
theorem pe_kinds {pn : Str} {a : Addr} {oe : Obj} {cls : Value} {d : Option Addr} {P : Program} {w : World} {K : Frag} {mg : Str → Option Value} {base : Heap} {T : Errs K mg} {ta : TA} (F : KindsOk P w K mg base T lv f fd pn) (hz : Zc cls d oe) (hf : ∃ vs, oe.data = .fields vs) (hp : (a, oe) ∈ X.pn) (hr : L2H.RoomH lv X.A) (hg : Gl X x)
    (hm : X.mg x = some (.ref f)) (hk : PySem.W.keepIn K (.ref f) = true) (hb : Binds K fd [pn] []) (ha : PA X [e] ta) (hP : X.prog = P := by rfl) (hw : X.w = w := by rfl) (hK : X.K = K := by rfl) (hM : X.mg = mg := by rfl) (hB : X.base = base := by rfl) (hdb : (x == ("__debug__" : Str)) = false := by decide)
    (he : starEach (e :: []) X.env = (false, eval e X.env) :: starEach [] X.env := by rfl) (hpl : (backTo pos (starEach [] X.env)).any (·.1) = false := by rfl) :
    PE X (.Call (.Name x q) [e] [] pos) (tKinds T cls d a ta) := by
  subst hP hw hK hM hB
  refine ⟨fun pins s σ H Q I h => ?_⟩
  refine wpAny_Call_Name_kw (ld_glob I hg hm ?_ hdb)
  refine PySem.W.callWith_K (h₀ := X.base) I.ok.mod.kin hk (thn (ha.run pos pins s σ H _ I h) fun us s1 ⟨vs, H1, I1, r, e1, e2, er, e3, k⟩ => ⟨I1.kIn, ?_⟩) he hpl
  subst e1 e2 e3
  have P1 := I1.pin (a, oe) (List.mem_append.mpr (.inl hp))
  have hl : us.length = 1 := r.length.symm
  have b := hb s1 us I1.kIn (by rw [List.append_nil]; exact hl)
  rw [List.append_nil] at b
  have hpin : L2H.PinOk X.stack H1 s1 (a, oe) := ⟨P1.1, P1.2.1, fun hm => (List.mem_cons.mp (I1.stkSub a hm)).elim P1.2.2.1 P1.2.2.2.1, P1.2.2.2.2⟩
  refine wpAny_call (codeAny_mono (F.run _ X.stack s1 H1 ⟨us, []⟩ us Q (a, oe) er hr hpin hz hf I1.env0 b r k) fun r' s' hq => ?_)
  cases r' with
  | error e => exact False.elim hq
  | ok fl =>
    cases fl with
    | ret u => exact I1.after hq
    | next => exact False.elim hq
    | brk => exact False.elim hq
    | cont => exact False.elim hq
end
/-! ### what may be compared -/
theorem sc_ii {a b : Int} : scal (.int a) (.int b) = true := rfl
theorem sc_ss {a b : Str} : scal (.str a) (.str b) = true := rfl
theorem sc_bb {a b : Bool} : scal (.bl a) (.bl b) = true := rfl
theorem sc_nn : scal .non .non = true := rfl
theorem sc_ni {a : Int} : scal .non (.int a) = true := rfl
theorem sc_in {a : Int} : scal (.int a) .non = true := rfl
theorem sc_sn {a : Str} : scal (.str a) .non = true := rfl
theorem sc_ns {a : Str} : scal .non (.str a) = true := rfl
theorem sc_bn {a : Bool} : scal (.bl a) .non = true := rfl
theorem sc_nb {a : Bool} : scal .non (.bl a) = true := rfl
theorem sc_is {a : Int} {b : Str} : scal (.int a) (.str b) = true := rfl
theorem sc_si {a : Int} {b : Str} : scal (.str b) (.int a) = true := rfl
theorem isi_int {K : Frag} {z : Int} {n : String} {b : Bool} {H : Hp} {Q : VK} (h : kitB "int" n = some b) (q : Q (.bl b) H) : rIsi K [.int z, .ty n] H Q := ⟨_, _, .type "int", .type n, b, rfl, .ty _, .base (.int _), kit_ty h, q⟩
theorem isi_bl {K : Frag} {z : Bool} {n : String} {b : Bool} {H : Hp} {Q : VK} (h : kitB "bool" n = some b) (q : Q (.bl b) H) : rIsi K [.bl z, .ty n] H Q := ⟨_, _, .type "bool", .type n, b, rfl, .ty _, .base (.bl _), kit_ty h, q⟩
theorem isi_str {K : Frag} {z : Str} {n : String} {b : Bool} {H : Hp} {Q : VK} (h : kitB "str" n = some b) (q : Q (.bl b) H) : rIsi K [.str z, .ty n] H Q := ⟨_, _, .type "str", .type n, b, rfl, .ty _, .base (.str _), kit_ty h, q⟩
theorem isi_tup {K : Frag} {a : Addr} {xs : List V} {n : String} {b : Bool} {H : Hp} {Q : VK} (e : H a = some (.tup xs)) (h : kitB "tuple" n = some b) (q : Q (.bl b) H) : rIsi K [.ref a, .ty n] H Q := ⟨_, _, .type "tuple", .type n, b, rfl, .ty _, .base (.tup e), kit_ty h, q⟩
theorem isi_lst {K : Frag} {a : Addr} {xs : List V} {n : String} {b : Bool} {H : Hp} {Q : VK} (e : H a = some (.lst xs)) (h : kitB "list" n = some b) (q : Q (.bl b) H) : rIsi K [.ref a, .ty n] H Q := ⟨_, _, .type "list", .type n, b, rfl, .ty _, .base (.lst e), kit_ty h, q⟩
theorem isi_non {K : Frag} {n : String} {b : Bool} {H : Hp} {Q : VK} (h : kitB "NoneType" n = some b) (q : Q (.bl b) H) : rIsi K [.non, .ty n] H Q := ⟨_, _, .type "NoneType", .type n, b, rfl, .ty _, .base .non, kit_ty h, q⟩
/-! ### [i] >= [j] -/
section listge
open PySem PySem.SeqAt PySem.MeetsSeq PySem.MeetsSeq2 PySem.MeetsSeq3
open PySem.AutoSeq1 (wpAny_loadPart')
/-- a list stands there -/
def Lat (s : Shared) (a : Addr) (xs : Array Value) (n : Nat) (dd : Option Addr) (sl : Array (Option Value)) : Prop := s.heap.get? a = some { cls := .type "list", dict := dd, data := .seq xs n, slots := sl }
theorem ge_two (a b : Addr) (xs ys : Array Value) (n m : Nat) (d1 d2 : Option Addr) (s1 s2 : Array (Option Value)) (hx : xs.size = 1) (hy : ys.size = 1) :
    Meets (Builtin.«list.__eq__.loop» ⟨[.ref a, .ref b, rawInt 1, rawInt 5], []⟩) (fun _ R s => Lat s a xs n d1 s1 ∧ Lat s b ys m d2 s2 ∧ R (.ok (.ret (.bool true))) s) := by
  rintro prog w A R ⟨hh, gg, dp, tk, oo⟩ ⟨ha, hb, k⟩
  unfold Lat at ha hb
  have e1 : xs[(1 : Int).toNat]? = none := by simp [hx]
  have e2 : ys[(1 : Int).toNat]? = none := by simp [hy]
  wp_walk using wpAny_loadPart' ha, wpAny_loadPart' hb
  rw [e1]
  wp_walk using wpAny_loadPart' ha, wpAny_loadPart' hb
  rw [hx, hy]
  exact k
theorem ge_one (a b : Addr) (xs ys : Array Value) (v u : Value) (n m : Nat) (d1 d2 : Option Addr) (s1 s2 : Array (Option Value)) (e r : Bool) (hx : xs.size = 1) (hy : ys.size = 1) (hv : xs[(0 : Int).toNat]? = some v) (hu : ys[(0 : Int).toNat]? = some u) :
    Meets (Builtin.«list.__eq__.loop» ⟨[.ref a, .ref b, rawInt 0, rawInt 5], []⟩) (fun A R s => Lat s a xs n d1 s1 ∧ Lat s b ys m d2 s2 ∧ EqAt A.in1 s v u e ∧ (e = false → Ob.RcOp .GtE A.in1 s v u r) ∧ R (.ok (.ret (.bool (e || r)))) s) := by
  rintro prog w A R ⟨hh, gg, dp, tk, oo⟩ ⟨ha, hb, he, hr, k⟩
  unfold Lat at ha hb
  wp_walk using wpAny_loadPart' ha, wpAny_loadPart' hb
  rw [hv, hu]
  refine wpAny_bind (he prog w _ _ ?_)
  cases e with
  | true =>
    wp_walk
    exact ⟨plainId_quiet plain_eq_loop _, codeAny_builtin entry_eq_loop (by
      rw [Around.under_plainId plain_eq_loop _]
      exact ge_two a b xs ys n m d1 d2 s1 s2 hx hy prog w A R _ ⟨ha, hb, k⟩)⟩
  | false =>
    wp_walk using wpAny_loadPart' ha, wpAny_loadPart' hb
    rw [hv, hu]
    refine wpAny_bind (hr rfl prog w _ _ ?_)
    wp_walk
    exact k
theorem ge_call (a b : Addr) (xs ys : Array Value) (v u : Value) (n m : Nat) (d1 d2 : Option Addr) (s1 s2 : Array (Option Value)) (e r : Bool) (hx : xs.size = 1) (hy : ys.size = 1) (hv : xs[(0 : Int).toNat]? = some v) (hu : ys[(0 : Int).toNat]? = some u) :
    Meets (Builtin.«list.__ge__» ⟨[.ref a, .ref b], []⟩) (fun A R s => Lat s a xs n d1 s1 ∧ Lat s b ys m d2 s2 ∧ EqAt A.in1 s v u e ∧ (e = false → Ob.RcOp .GtE A.in1 s v u r) ∧ R (.ok (.ret (.bool (e || r)))) s) := by
  rintro prog w A R ⟨hh, gg, dp, tk, oo⟩ ⟨ha, hb, he, hr, k⟩
  have sub := AutoSeq1.sub_list_list
  have ha' := ha
  have hb' := hb
  unfold Lat at ha' hb'
  wp_walk using wpAny_loadPart' ha', wpAny_loadPart' hb'
  exact ⟨plainId_quiet plain_eq_loop _, codeAny_builtin entry_eq_loop (by
    rw [Around.under_plainId plain_eq_loop _]
    exact ge_one a b xs ys v u n m d1 d2 s1 s2 e r hx hy hv hu prog w A R _ ⟨ha, hb, he, hr, k⟩)⟩
theorem lge_slot : Slot "list" (cmpInfo .GtE).2.1 "list.__ge__" :=
  .of (owner := "list") (n := "__ge__") (by rw [typeLookup_type, builtinLookup_eq_fast]; kernel_rfl) (by decide +kernel) (by decide +kernel) (by decide +kernel)
    (by exact .inl (by decide +kernel)) (by rw [isSubtype_type]; kernel_rfl)
theorem lge_entry : entryFor table "list.__ge__" = some Builtin.«list.__ge__» := entryFor_of_tree (by kernel_rfl)
theorem lge_args (a b : Value) : argsOk "list.__ge__" ⟨[a, b], []⟩ := by
  unfold argsOk
  rw [signature?_of (id := "list.__ge__") (n := ['_', '_', 'e', 'g', '_', '_']) (o := ['t', 's', 'i', 'l']) (by kernel_rfl) F.owner_list]
  kernel_rfl
end listge
section
open PySem PySem.Spec PyProof.Rows L2
variable {X : Cx}
/-- [i] >= [j] -/
def rGeL (K : Frag) : R2 := fun x y H Q => ∃ a b i j, x = .ref a ∧ y = .ref b ∧ SqL K H a [.int i] ∧ SqL K H b [.int j] ∧ Q (.bl (decide (j ≤ i))) H
theorem op_geL (hu : X.A.units < cLine) : OpR X (compareOp .GtE) (rGeL X.K) := by
  intro pins s σ H x y v u Q I rx ry h
  obtain ⟨a, b, i, j, rfl, rfl, ha, hb, q⟩ := h
  cases rx
  cases ry
  obtain ⟨its, r1, p1, z1⟩ := I.list ha
  obtain ⟨its2, r2, p2, z2⟩ := I.list hb
  cases r1 with
  | cons rv r1 =>
    cases r1
    cases r2 with
    | cons ru r2 =>
      cases r2
      obtain ⟨t1, rfl⟩ := rv
      obtain ⟨t2, rfl⟩ := ru
      obtain ⟨⟨c1, d1, q1, w1⟩, n1, g1, k1, m1, j1⟩ := p1
      obtain ⟨⟨c2, d2, q2, w2⟩, n2, g2, k2, m2, j2⟩ := p2
      dsimp only at k1 m1 j1 k2 m2 j2
      subst k1 m1 j1 k2 m2 j2
      have both : (i == j || decide (j ≤ i)) = decide (j ≤ i) := by
        by_cases c : i = j
        · subst c; simp
        · simp [c]
      have meets := ge_call a b #[.int i t1] #[.int j t2] (.int i t1) (.int j t2) n1 n2 none none w1 w2 (i == j) (decide (j ≤ i)) rfl rfl rfl rfl
      rw [both] at meets
      exact richCompare_meets_room (op := .GtE) ⟨_, g1, rfl⟩ ⟨_, g2, rfl⟩ lge_slot lge_entry (lge_args _ _) meets ⟨g1, g2, PySem.SeqAt.EqAt.int_int _ _ _ _, fun _ => Ob.RcOp.ge_int _ _ _ _, ⟨(fun x => nomatch x), ⟨.bl _, H, I, rfl, q⟩⟩⟩ hu
end
/-! ### xs[i] ahead of a store in place -/
section
variable {X : Cx}
def rGetL (K : Frag) : V → V → Hp → VK → Prop := fun o i H Q => ∃ p xs k v, o = .ref p ∧ i = .int k ∧ SqL K H p xs ∧ 0 ≤ k ∧ xs[k.toNat]? = some v ∧ Q v H
theorem get_list : PGet X (rGetL X.K) := by
  intro pins s σ H o i ov iv Q I ro ri h
  obtain ⟨p, xs, k, v, rfl, rfl, hq, k0, e, q⟩ := h
  cases ro
  obtain ⟨t, rfl⟩ := ri
  obtain ⟨its, r, pl, hz⟩ := I.list hq
  obtain ⟨u, eu, ru⟩ := r.get e
  have hl := r.length
  have hn := line63
  have hi := (List.getElem?_eq_some_iff.mp e).1
  exact getItem_listL pl.isList k0 (by omega) eu ⟨v, H, I, ru, q⟩
end
/-! ### in a comprehension's block, in an except suite: what is read is told by the outer K -/
theorem pe_bmK (K : Frag) {X : Cx} {T name id : String} {r : V → List V → Hp → VK → Prop} {o e : Expr} {es : List Expr} {to : TE} {t : TA} {apos cpos : Pos} (pa : PlainAttrs T) (slot : Slot T name id) (hty : typeOf (.builtin id) = pure (.type "method_descriptor")) (hm : MtR X id r) (ho : PE X o to) (ha : PA X (e :: es) t)
    (hbase : attributeBase o name X.env (eval o X.env) = eval o X.env := by rfl)
    (hfew : ((backTo cpos (starEach (e :: es) X.env)).all (fun x => !x.1) && (backToKw cpos (keywordEach [] X.env)).all (fun x => x.1.isSome)
      && decide ((e :: es).length + ([] : List Keyword).length + (if ([] : List Keyword).isEmpty then 0 else 1) < 30)) = true := by rfl)
    (hline : (apos.endLine == cpos.line) = true := by rfl) (hs : starEach (e :: es) X.env = (false, eval e X.env) :: starEach es X.env := by rfl) (hplain : (backTo cpos (starEach es X.env)).any (·.1) = false := by rfl) (h : X.K = K := by rfl) :
    PE X (.Call (.Attribute o name apos) (e :: es) [] cpos) (tBM K T r to t) := by subst h; exact pe_bm pa slot hty hm ho ha hbase hfew hline hs hplain
theorem call_lenK (K : Frag) {X : Cx} (h : X.K = K := by rfl) : CallR X (.builtin "len") (fun xs H Q => ∃ p ys, xs = [.ref p] ∧ (SqL K H p ys ∨ SqT K H p ys) ∧ Q (.int (ys.length : Nat)) H) := by subst h; exact call_len_seq
theorem ixl (K : Frag) {X : Cx} (h : X.K = K := by rfl) : IxR X (rIxL K) := by subst h; exact ix_list
theorem ixt (K : Frag) {X : Cx} (h : X.K = K := by rfl) : IxR X (rIxT K) := by subst h; exact ix_tup
theorem cdiv_1 {i : Int} : CDivW i 1 = True := eq_true ⟨by decide, by decide⟩
theorem cdiv_2 {i : Int} : CDivW i 2 = True := eq_true ⟨by decide, by decide⟩
theorem cdiv_3 {i : Int} : CDivW i 3 = True := eq_true ⟨by decide, by decide⟩
theorem cdiv_4 {i : Int} : CDivW i 4 = True := eq_true ⟨by decide, by decide⟩
theorem cdiv_5 {i : Int} : CDivW i 5 = True := eq_true ⟨by decide, by decide⟩
theorem cdiv_6 {i : Int} : CDivW i 6 = True := eq_true ⟨by decide, by decide⟩
theorem cdiv_7 {i : Int} : CDivW i 7 = True := eq_true ⟨by decide, by decide⟩
theorem cdiv_8 {i : Int} : CDivW i 8 = True := eq_true ⟨by decide, by decide⟩
theorem cdiv_9 {i : Int} : CDivW i 9 = True := eq_true ⟨by decide, by decide⟩
theorem cdiv_10 {i : Int} : CDivW i 10 = True := eq_true ⟨by decide, by decide⟩
theorem cdiv_11 {i : Int} : CDivW i 11 = True := eq_true ⟨by decide, by decide⟩
theorem cdiv_12 {i : Int} : CDivW i 12 = True := eq_true ⟨by decide, by decide⟩
theorem cdiv_13 {i : Int} : CDivW i 13 = True := eq_true ⟨by decide, by decide⟩
theorem cdiv_14 {i : Int} : CDivW i 14 = True := eq_true ⟨by decide, by decide⟩
theorem cdiv_16 {i : Int} : CDivW i 16 = True := eq_true ⟨by decide, by decide⟩
theorem cdiv_20 {i : Int} : CDivW i 20 = True := eq_true ⟨by decide, by decide⟩
theorem cdiv_30 {i : Int} : CDivW i 30 = True := eq_true ⟨by decide, by decide⟩
theorem cdiv_50 {i : Int} : CDivW i 50 = True := eq_true ⟨by decide, by decide⟩
theorem cdiv_60 {i : Int} : CDivW i 60 = True := eq_true ⟨by decide, by decide⟩
theorem cdiv_64 {i : Int} : CDivW i 64 = True := eq_true ⟨by decide, by decide⟩
theorem cdiv_100 {i : Int} : CDivW i 100 = True := eq_true ⟨by decide, by decide⟩
theorem cdiv_400 {i : Int} : CDivW i 400 = True := eq_true ⟨by decide, by decide⟩
theorem cdiv_1000 {i : Int} : CDivW i 1000 = True := eq_true ⟨by decide, by decide⟩
theorem cdiv_2000 {i : Int} : CDivW i 2000 = True := eq_true ⟨by decide, by decide⟩
theorem cdiv_10000 {i : Int} : CDivW i 10000 = True := eq_true ⟨by decide, by decide⟩
theorem cdiv_1000000 {i : Int} : CDivW i 1000000 = True := eq_true ⟨by decide, by decide⟩
theorem sz_0 : (0 ≤ sizeLine) = True := eq_true (by decide)
theorem szl_0 : (0 < sizeLine) = True := eq_true (by decide)
theorem sz_1 : (1 ≤ sizeLine) = True := eq_true (by decide)
theorem szl_1 : (1 < sizeLine) = True := eq_true (by decide)
theorem sz_2 : (2 ≤ sizeLine) = True := eq_true (by decide)
theorem szl_2 : (2 < sizeLine) = True := eq_true (by decide)
theorem sz_3 : (3 ≤ sizeLine) = True := eq_true (by decide)
theorem szl_3 : (3 < sizeLine) = True := eq_true (by decide)
theorem sz_4 : (4 ≤ sizeLine) = True := eq_true (by decide)
theorem szl_4 : (4 < sizeLine) = True := eq_true (by decide)
theorem sz_5 : (5 ≤ sizeLine) = True := eq_true (by decide)
theorem szl_5 : (5 < sizeLine) = True := eq_true (by decide)
theorem sz_6 : (6 ≤ sizeLine) = True := eq_true (by decide)
theorem szl_6 : (6 < sizeLine) = True := eq_true (by decide)
theorem sz_7 : (7 ≤ sizeLine) = True := eq_true (by decide)
theorem szl_7 : (7 < sizeLine) = True := eq_true (by decide)
theorem sz_8 : (8 ≤ sizeLine) = True := eq_true (by decide)
theorem szl_8 : (8 < sizeLine) = True := eq_true (by decide)
theorem sz_9 : (9 ≤ sizeLine) = True := eq_true (by decide)
theorem szl_9 : (9 < sizeLine) = True := eq_true (by decide)
theorem sz_10 : (10 ≤ sizeLine) = True := eq_true (by decide)
theorem szl_10 : (10 < sizeLine) = True := eq_true (by decide)
theorem sz_11 : (11 ≤ sizeLine) = True := eq_true (by decide)
theorem szl_11 : (11 < sizeLine) = True := eq_true (by decide)
theorem sz_12 : (12 ≤ sizeLine) = True := eq_true (by decide)
theorem szl_12 : (12 < sizeLine) = True := eq_true (by decide)
theorem sz_13 : (13 ≤ sizeLine) = True := eq_true (by decide)
theorem szl_13 : (13 < sizeLine) = True := eq_true (by decide)
theorem sz_14 : (14 ≤ sizeLine) = True := eq_true (by decide)
theorem szl_14 : (14 < sizeLine) = True := eq_true (by decide)
theorem sz_15 : (15 ≤ sizeLine) = True := eq_true (by decide)
theorem szl_15 : (15 < sizeLine) = True := eq_true (by decide)
theorem sz_16 : (16 ≤ sizeLine) = True := eq_true (by decide)
theorem szl_16 : (16 < sizeLine) = True := eq_true (by decide)
theorem sz_17 : (17 ≤ sizeLine) = True := eq_true (by decide)
theorem szl_17 : (17 < sizeLine) = True := eq_true (by decide)
theorem sz_18 : (18 ≤ sizeLine) = True := eq_true (by decide)
theorem szl_18 : (18 < sizeLine) = True := eq_true (by decide)
theorem sz_19 : (19 ≤ sizeLine) = True := eq_true (by decide)
theorem szl_19 : (19 < sizeLine) = True := eq_true (by decide)
theorem sz_20 : (20 ≤ sizeLine) = True := eq_true (by decide)
theorem szl_20 : (20 < sizeLine) = True := eq_true (by decide)
theorem sz_21 : (21 ≤ sizeLine) = True := eq_true (by decide)
theorem szl_21 : (21 < sizeLine) = True := eq_true (by decide)
theorem sz_22 : (22 ≤ sizeLine) = True := eq_true (by decide)
theorem szl_22 : (22 < sizeLine) = True := eq_true (by decide)
theorem sz_23 : (23 ≤ sizeLine) = True := eq_true (by decide)
theorem szl_23 : (23 < sizeLine) = True := eq_true (by decide)
theorem sz_24 : (24 ≤ sizeLine) = True := eq_true (by decide)
theorem szl_24 : (24 < sizeLine) = True := eq_true (by decide)
theorem sz_25 : (25 ≤ sizeLine) = True := eq_true (by decide)
theorem szl_25 : (25 < sizeLine) = True := eq_true (by decide)
theorem sz_26 : (26 ≤ sizeLine) = True := eq_true (by decide)
theorem szl_26 : (26 < sizeLine) = True := eq_true (by decide)
theorem cdivw {i j : Int} (h0 : 0 < j) (h1 : j < 18446744073709551616) : CDivW i j := by
  refine ⟨h0, ?_⟩
  have z : j.natAbs < 2 ^ 64 := by omega
  have := PySem.Flt.log2_lt_of (by decide : 0 < 64) z
  omega
/-! ### small words -/
theorem ne_fresh {H : Hp} {p q : Addr} {o : HO} (h : upd H p o q = none) : q ≠ p := by
  intro e
  subst e
  rw [upd_same] at h
  cases h
theorem fresh_was {H : Hp} {p q : Addr} {o : HO} (h : upd H p o q = none) : H q = none := by
  have e := ne_fresh h
  rw [upd_ne e] at h
  exact h
theorem same_upd {H : Hp} {p : Addr} {o : HO} (h : H p = none) : Same H (upd H p o) := fun b u e => by
  rw [upd_ne (ne_of_none e h)]
  exact e
/-- behind a store to what was not there at first -/
theorem same_mut {H H' : Hp} {p : Addr} {o : HO} (h : H p = none) (k : Same H H') : Same H (upd H' p o) := fun b u e => by
  rw [upd_ne (ne_of_none e h)]
  exact k b u e
theorem same_fresh {H H' : Hp} {p : Addr} (k : Same H H') (h : H' p = none) : H p = none := k.free h
theorem same_tup {K : Frag} {H H' : Hp} {a : Addr} {xs : List V} (e : Same H H') (h : SqT K H a xs) : SqT K H' a xs := by
  rcases h with (h | ⟨o, h⟩) | h
  · exact .inl (.inl (e _ _ h))
  · exact .inl (.inr ⟨o, e _ _ h⟩)
  · exact .inr h
/-- a tuple stays where a list is written -/
theorem tup_keep {H : Hp} {r a : Addr} {xs ys zs : List V} (hr : H r = some (.tup ys)) (ha : H a = some (.lst xs)) : (upd H a (.lst zs)) r = some (.tup ys) := by
  rw [upd_ne (ne_of hr ha (by intro z; cases z))]
  exact hr
theorem bits64 {k : Int} (h1 : -(2 ^ 64) < k) (h2 : k < 2 ^ 64) : Builtin.Int.intBits k ≤ 64 := intBits_le_64 h1 h2
theorem bitsPow {k : Int} {n : Nat} (h0 : 0 < n) (h1 : -(2 ^ n) < k) (h2 : k < 2 ^ n) : Builtin.Int.intBits k ≤ n := by
  have z : k.natAbs < 2 ^ n := by
    have e : ((2 ^ n : Nat) : Int) = (2 : Int) ^ n := by simp
    omega
  unfold Builtin.Int.intBits
  split
  · omega
  · have := PySem.Flt.log2_lt_of h0 z
    omega
theorem bits_mono {i j : Int} (h : i.natAbs ≤ j.natAbs) : Builtin.Int.intBits i ≤ Builtin.Int.intBits j := by
  unfold Builtin.Int.intBits
  by_cases c : i = 0
  · rw [if_pos (beq_iff_eq.mpr c)]
    exact Nat.zero_le _
  · have hj : ¬ j = 0 := by omega
    rw [if_neg (fun z => hj (beq_iff_eq.mp z)), if_neg (fun z => c (beq_iff_eq.mp z))]
    have hi : i.natAbs ≠ 0 := by omega
    have hj' : j.natAbs ≠ 0 := by omega
    have z : i.natAbs.log2 ≤ j.natAbs.log2 := (Nat.le_log2 hj').mpr (Nat.le_trans (Nat.log2_self_le hi) h)
    omega
theorem mulX {i j : Int} {a b : Nat} (h1 : Builtin.Int.intBits i ≤ a) (h2 : Builtin.Int.intBits j ≤ b) (h : a + b ≤ 134217728 := by decide) : CMulX i j := by
  unfold CMulX
  omega
theorem ix_num {K : Frag} {a : Addr} {ns : List Int} {k : Int} {H : Hp} {Q : VK} (hS : SqL K H a (ns.map V.int)) (h : 0 ≤ k ∧ k < (ns.length : Int)) (q : Q (.int (ns.getD k.toNat 0)) H) : rIxL K (.ref a) (.int k) H Q := by
  refine ⟨a, _, k, _, rfl, rfl, hS, ?_, q⟩
  have e : (ns.map V.int)[k.toNat]? = some (V.int (ns.getD k.toNat 0)) := by
    rw [List.getElem?_map, List.getD_eq_getElem?_getD]
    have z : k.toNat < ns.length := by omega
    rw [List.getElem?_eq_getElem z]
    rfl
  exact at_of (j := k.toNat) (by omega) e
theorem ix_at {K : Frag} {a : Addr} {xs : List V} {k : Int} {v : V} {H : Hp} {Q : VK} (hS : SqL K H a xs) (h : 0 ≤ k) (e : xs[k.toNat]? = some v) (q : Q v H) : rIxL K (.ref a) (.int k) H Q :=
  ⟨a, xs, k, v, rfl, rfl, hS, at_of (j := k.toNat) (by omega) e, q⟩
theorem inV_ints {d : Int} : ∀ hs : List Int, inV (.int d) (hs.map V.int) = decide (d ∈ hs)
  | [] => by simp [inV]
  | x :: r => by
    have ih := inV_ints (d := d) r
    unfold inV at ih ⊢
    rw [List.map_cons, List.any_cons, ih]
    by_cases e : x = d
    · subst e; simp [eqV]
    · have e2 : ¬d = x := fun z => e z.symm
      simp [eqV, e, e2]
theorem flat_int (hs : List Int) : (hs.map V.int).all flatV = true := by
  rw [List.all_map]
  exact List.all_eq_true.mpr fun _ _ => rfl
theorem in_ints {K : Frag} {d : Int} {a : Addr} {hs : List Int} {H : Hp} {Q : VK} (hS : SqL K H a (hs.map V.int)) (q : Q (.bl (decide (d ∈ hs))) H) : rIn K false (.int d) (.ref a) H Q :=
  ⟨a, _, rfl, .inl hS, rfl, flat_int hs, by rw [inV_ints]; exact q⟩
theorem nin_ints {K : Frag} {d : Int} {a : Addr} {hs : List Int} {H : Hp} {Q : VK} (hS : SqL K H a (hs.map V.int)) (q : Q (.bl (!decide (d ∈ hs))) H) : rIn K true (.int d) (.ref a) H Q :=
  ⟨a, _, rfl, .inl hS, rfl, flat_int hs, by rw [inV_ints]; exact q⟩
/-- what is known of a number that a law draws -/
theorem num_in {ns : List Int} (hn : ∀ z ∈ ns, 0 ≤ z ∧ z < 10000000000000) (k : Nat) : 0 ≤ ns.getD k 0 ∧ ns.getD k 0 < 10000000000000 := by
  rw [List.getD_eq_getElem?_getD]
  cases e : ns[k]? with
  | none => exact ⟨by decide, by decide⟩
  | some z => exact hn z (List.mem_of_getElem? e)
theorem ix_sign {z : Str} {k : Int} {H : Hp} {Q : VK} (hz : z.length ≤ sizeLine) (h : 0 ≤ k ∧ k < (z.length : Int)) (q : ∀ c, z.cps.toList[k.toNat]? = some c → Q (.str ⟨#[c]⟩) H) : rIxS (.str z) (.int k) H Q := by
  have hl : k.toNat < z.cps.toList.length := by
    rw [Array.length_toList]
    show k.toNat < z.length
    omega
  have e : z.cps.toList[k.toNat]? = some z.cps.toList[k.toNat] := List.getElem?_eq_getElem hl
  refine ⟨z, k, _, rfl, rfl, hz, ?_, q _ e⟩
  unfold atI
  rw [show ixN z.cps.toList.length k = some k.toNat by unfold ixN; rw [if_pos h.1, if_pos (by omega)]]
  exact e
theorem ix_signc {z : Str} {k : Int} {c : Nat} {H : Hp} {Q : VK} (hz : z.length ≤ sizeLine) (h : 0 ≤ k) (e : z.cps.toList[k.toNat]? = some c) (q : Q (.str ⟨#[c]⟩) H) : rIxS (.str z) (.int k) H Q := by
  have hl : k.toNat < z.cps.toList.length := (List.getElem?_eq_some_iff.mp e).1
  refine ⟨z, k, c, rfl, rfl, hz, ?_, q⟩
  unfold atI
  rw [show ixN z.cps.toList.length k = some k.toNat by unfold ixN; rw [if_pos h, if_pos (by omega)]]
  exact e
theorem len_one (c : Nat) : (⟨#[c]⟩ : Str).length = 1 := rfl
theorem ref_num {ns : List Int} {i : Nat} {x : V} (h : (ns.map V.int)[i]? = some x) : ∃ z, ns[i]? = some z ∧ x = .int z := by
  rw [List.getElem?_map] at h
  cases e : ns[i]? with
  | none => rw [e] at h; cases h
  | some z => rw [e] at h; exact ⟨z, rfl, (Option.some.inj h).symm⟩
/-! ### one statement at a time -/
theorem seq_step {t u : TS} {D : Ends} {σ : L2.St} {H : Hp} (h : ∀ U : Ends → L2.St → Hp → Prop, U = u → t { D with nx := U D } σ H) : tSeq t u D σ H := h u rfl
theorem gseq_step {t u : TS} {D : Ends} {i : Nat} {x : V} {σ : L2.St} {H : Hp} (h : ∀ U : Ends → L2.St → Hp → Prop, U = u → t { D with nx := U D } (σ.set i (some x)) H) : gName i x σ H fun σ2 H2 => tSeq t u D σ2 H2 := h u rfl
/-- .. what stands between the two told -/
theorem seq_cut {t u : TS} {D : Ends} {σ : L2.St} {H : Hp} (M : L2.St → Hp → Prop) (h1 : ∀ U : L2.St → Hp → Prop, (∀ σ' H', M σ' H' → U σ' H') → t { D with nx := U } σ H) (h2 : ∀ σ' H', M σ' H' → u D σ' H') : tSeq t u D σ H := h1 (u D) h2
/-! ### a tuple taken apart -/
theorem gtup2 {K : Frag} {p : Addr} {x y : V} {g1 g2 : TG} {σ : L2.St} {H : Hp} {k : L2.St → Hp → Prop} (h : SqT K H p [x, y]) (q : g1 x σ H fun σ1 H1 => g2 y σ1 H1 k) (mono : ∀ v σ H, (∀ Q Q' : L2.St → Hp → Prop, (∀ a b, Q a b → Q' a b) → g1 v σ H Q → g1 v σ H Q') ∧ (∀ Q Q' : L2.St → Hp → Prop, (∀ a b, Q a b → Q' a b) → g2 v σ H Q → g2 v σ H Q')) : gTup K 2 (gCons g1 (gCons g2 gNil)) (.ref p) σ H k :=
  ⟨p, _, rfl, h, rfl, x, [y], rfl, (mono _ _ _).1 _ _ (fun σ1 H1 q1 => ⟨y, [], rfl, (mono _ _ _).2 _ _ (fun _ _ q2 => ⟨rfl, q2⟩) q1⟩) q⟩
theorem gtupN2 {K : Frag} {p : Addr} {x y : V} {i j : Nat} {σ : L2.St} {H : Hp} {k : L2.St → Hp → Prop} (h : SqT K H p [x, y]) (q : k ((σ.set i (some x)).set j (some y)) H) : gTup K 2 (gCons (gName i) (gCons (gName j) gNil)) (.ref p) σ H k :=
  ⟨p, _, rfl, h, rfl, x, [y], rfl, y, [], rfl, rfl, q⟩
theorem gtupN3 {K : Frag} {p : Addr} {x y z : V} {i j l : Nat} {σ : L2.St} {H : Hp} {k : L2.St → Hp → Prop} (h : SqT K H p [x, y, z]) (q : k (((σ.set i (some x)).set j (some y)).set l (some z)) H) : gTup K 3 (gCons (gName i) (gCons (gName j) (gCons (gName l) gNil))) (.ref p) σ H k :=
  ⟨p, _, rfl, h, rfl, x, [y, z], rfl, y, [z], rfl, z, [], rfl, rfl, q⟩
/-! ### lists of texts, lists of ints compared -/
theorem dp_strs {K : Frag} {H : Hp} : ∀ xs : List Str, DpAll K H (xs.map V.str) (xs.map PyData.str)
  | [] => .nil
  | x :: r => .cons (.str x) (dp_strs r)
theorem dp_ints {K : Frag} {H : Hp} : ∀ xs : List Int, DpAll K H (xs.map V.int) (xs.map PyData.int)
  | [] => .nil
  | x :: r => .cons (.int x) (dp_ints r)
theorem eqv_strs : ∀ xs ys : List Str, PyData.eqvAll (xs.map PyData.str) (ys.map PyData.str) = decide (xs = ys)
  | [], [] => by simp [PyData.eqvAll]
  | [], y :: ys => by simp [PyData.eqvAll]
  | x :: xs, [] => by simp [PyData.eqvAll]
  | x :: xs, y :: ys => by
    have ih := eqv_strs xs ys
    simp only [List.map_cons, PyData.eqvAll, PyData.eqv, ih, List.cons.injEq]
    by_cases e : x = y <;> simp [e]
theorem eqv_ints : ∀ xs ys : List Int, PyData.eqvAll (xs.map PyData.int) (ys.map PyData.int) = decide (xs = ys)
  | [], [] => by simp [PyData.eqvAll]
  | [], y :: ys => by simp [PyData.eqvAll]
  | x :: xs, [] => by simp [PyData.eqvAll]
  | x :: xs, y :: ys => by
    have ih := eqv_ints xs ys
    simp only [List.map_cons, PyData.eqvAll, PyData.eqv, ih, List.cons.injEq]
    by_cases e : x = y <;> simp [e]
theorem lay_strs : ∀ xs : List Str, xs.all PyData.strOk = true → PyData.canLayAll0 (xs.map PyData.str) = true
  | [], _ => rfl
  | x :: r, h => by
    rw [List.all_cons, Bool.and_eq_true] at h
    simp only [List.map_cons, PyData.canLayAll0, PyData.canLay0, h.1, lay_strs r h.2, Bool.and_self]
theorem lay_ints : ∀ xs : List Int, PyData.canLayAll0 (xs.map PyData.int) = true
  | [] => rfl
  | x :: r => by simp only [List.map_cons, PyData.canLayAll0, PyData.canLay0, lay_ints r, Bool.and_self]
theorem flat_strs : ∀ xs : List Str, PyData.depthAll (xs.map PyData.str) = 0
  | [] => rfl
  | x :: r => by simp only [List.map_cons, PyData.depthAll, PyData.depth, flat_strs r, Nat.max_self]
theorem flat_ints : ∀ xs : List Int, PyData.depthAll (xs.map PyData.int) = 0
  | [] => rfl
  | x :: r => by simp only [List.map_cons, PyData.depthAll, PyData.depth, flat_ints r, Nat.max_self]
theorem shaped_strs {xs : List Str} (h : xs.all PyData.strOk = true) : SeqAt.shaped (.list (xs.map PyData.str)) = true := by
  unfold SeqAt.shaped
  simp only [PyData.canLay0, lay_strs xs h, PyData.depth, flat_strs, Bool.true_and]
  decide
theorem shaped_ints {xs : List Int} : SeqAt.shaped (.list (xs.map PyData.int)) = true := by
  unfold SeqAt.shaped
  simp only [PyData.canLay0, lay_ints xs, PyData.depth, flat_ints, Bool.true_and]
  decide
theorem ne_strs {K : Frag} {H : Hp} {p q : Addr} {xs ys : List Str} {Q : VK} (hp : SqL K H p (xs.map V.str)) (hq : SqL K H q (ys.map V.str)) (ox : xs.all PyData.strOk = true) (oy : ys.all PyData.strOk = true) (k : Q (.bl (!decide (xs = ys))) H) : rNeD K (.ref p) (.ref q) H Q :=
  ⟨_, _, .lst hp (dp_strs xs), .lst hq (dp_strs ys), shaped_strs ox, shaped_strs oy, by simp only [PyData.eqv, eqv_strs]; exact k⟩
theorem eq_strs {K : Frag} {H : Hp} {p q : Addr} {xs ys : List Str} {Q : VK} (hp : SqL K H p (xs.map V.str)) (hq : SqL K H q (ys.map V.str)) (ox : xs.all PyData.strOk = true) (oy : ys.all PyData.strOk = true) (k : Q (.bl (decide (xs = ys))) H) : rEqD K (.ref p) (.ref q) H Q :=
  ⟨_, _, .lst hp (dp_strs xs), .lst hq (dp_strs ys), shaped_strs ox, shaped_strs oy, by simp only [PyData.eqv, eqv_strs]; exact k⟩
theorem ne_ints {K : Frag} {H : Hp} {p q : Addr} {xs ys : List Int} {Q : VK} (hp : SqL K H p (xs.map V.int)) (hq : SqL K H q (ys.map V.int)) (k : Q (.bl (!decide (xs = ys))) H) : rNeD K (.ref p) (.ref q) H Q :=
  ⟨_, _, .lst hp (dp_ints xs), .lst hq (dp_ints ys), shaped_ints, shaped_ints, by simp only [PyData.eqv, eqv_ints]; exact k⟩
theorem eq_ints {K : Frag} {H : Hp} {p q : Addr} {xs ys : List Int} {Q : VK} (hp : SqL K H p (xs.map V.int)) (hq : SqL K H q (ys.map V.int)) (k : Q (.bl (decide (xs = ys))) H) : rEqD K (.ref p) (.ref q) H Q :=
  ⟨_, _, .lst hp (dp_ints xs), .lst hq (dp_ints ys), shaped_ints, shaped_ints, by simp only [PyData.eqv, eqv_ints]; exact k⟩
/-- kinds as a law compares them -/
theorem ne_kind {K : Frag} {H : Hp} {p q : Addr} {x : Str} {Q : VK} (hp : H p = some (.lst [.str x])) (hq : H q = some (.lst [.str x])) (ox : PyData.strOk x = true) (k : Q (.bl false) H) : rNeD K (.ref p) (.ref q) H Q :=
  ne_strs (xs := [x]) (ys := [x]) (SqL.of hp) (SqL.of hq) (by simp [ox]) (by simp [ox]) (by simpa using k)
theorem shaped_of {d : PyData} (h1 : PyData.canLay0 d = true) (h2 : d.depth ≤ 64) : SeqAt.shaped d = true := by
  unfold SeqAt.shaped
  rw [h1, Bool.true_and]
  exact decide_eq_true h2
/-- two that say the same -/
theorem ne_same {K : Frag} {H : Hp} {x y : V} {d : PyData} {Q : VK} (hx : Dp K H x d) (hy : Dp K H y d) (hs : SeqAt.shaped d = true) (he : PyData.eqv d d = true) (k : Q (.bl false) H) : rNeD K x y H Q :=
  ⟨d, d, hx, hy, hs, hs, by rw [he]; exact k⟩
theorem eq_same {K : Frag} {H : Hp} {x y : V} {d : PyData} {Q : VK} (hx : Dp K H x d) (hy : Dp K H y d) (hs : SeqAt.shaped d = true) (he : PyData.eqv d d = true) (k : Q (.bl true) H) : rEqD K x y H Q :=
  ⟨d, d, hx, hy, hs, hs, by rw [he]; exact k⟩
theorem dp_3 {K : Frag} {H : Hp} {t : Addr} {a b c : Int} (ht : SqT K H t [.int a, .int b, .int c]) : Dp K H (.ref t) (.tuple [.int a, .int b, .int c]) :=
  .tup ht (.cons (.int _) (.cons (.int _) (.cons (.int _) .nil)))
theorem dp_pair {K : Frag} {H : Hp} {t l : Addr} {x y : V} {d e : PyData} (ht : SqT K H t [x, .ref l]) (hx : Dp K H x d) (hl : SqL K H l [y]) (hy : Dp K H y e) : Dp K H (.ref t) (.tuple [d, .list [e]]) :=
  .tup ht (.cons hx (.cons (.lst hl (.cons hy .nil)) .nil))
/-! ### loops -/
theorem tfor_range1 {ta : TA} {g : TG} {tb : TS} {D : Ends} {σ : L2.St} {H : Hp} {n : Int} (ha : ∀ Q : List V → Hp → Prop, Q [.int n] H → ta σ H Q) (hn : -1000000 ≤ n ∧ n ≤ 1000000) (Pv : Nat → L2.St → Hp → Prop) (h0 : Pv 0 σ H)
    (hs : ∀ (i : Nat) σ' H', (i : Int) < n → Pv i σ' H' → g (.int (i : Int)) σ' H' fun σ2 H2 => tb { D with nx := Pv (i + 1), ct := Pv (i + 1), bk := D.nx } σ2 H2) (hd : ∀ σ' H', Pv n.toNat σ' H' → D.nx σ' H') : tFor (iRng1 ta) g tb D σ H :=
  ha _ ⟨n, rfl, by omega, by omega, for_range (lo := 0) (n := n.toNat) Pv h0 (fun i σ' H' hi p => by
    rw [Int.zero_add]
    exact hs i σ' H' (by omega) p) hd⟩
theorem tfor_range2 {ta : TA} {g : TG} {tb : TS} {D : Ends} {σ : L2.St} {H : Hp} {lo hi : Int} (ha : ∀ Q : List V → Hp → Prop, Q [.int lo, .int hi] H → ta σ H Q) (hn : -1000000 ≤ lo ∧ lo ≤ 1000000 ∧ -1000000 ≤ hi ∧ hi ≤ 1000000) (Pv : Nat → L2.St → Hp → Prop) (h0 : Pv 0 σ H)
    (hs : ∀ (i : Nat) σ' H', lo + (i : Int) < hi → Pv i σ' H' → g (.int (lo + (i : Int))) σ' H' fun σ2 H2 => tb { D with nx := Pv (i + 1), ct := Pv (i + 1), bk := D.nx } σ2 H2) (hd : ∀ σ' H', Pv (hi - lo).toNat σ' H' → D.nx σ' H') : tFor (iRng2 ta) g tb D σ H :=
  ha _ ⟨lo, hi, rfl, ⟨by omega, by omega, by omega, by omega⟩, for_range (lo := lo) (n := (hi - lo).toNat) Pv h0 (fun i σ' H' hi p => hs i σ' H' (by omega) p) hd⟩
theorem tfor_lvar {K : Frag} {j : Nat} {a : Addr} {xs : List V} {g : TG} {tb : TS} {D : Ends} {σ : L2.St} {H : Hp} (hj : σ[j]? = some (some (.ref a))) (hS : SqL K H a xs) (Pv : Nat → L2.St → Hp → Prop) (h0 : Pv 0 σ H) (hl : ∀ i σ' H', i ≤ xs.length → Pv i σ' H' → SqL K H' a xs)
    (hs : ∀ i x σ' H', xs[i]? = some x → Pv i σ' H' → g x σ' H' fun σ2 H2 => tb { D with nx := Pv (i + 1), ct := Pv (i + 1), bk := D.nx } σ2 H2) (hd : ∀ σ' H', Pv xs.length σ' H' → D.nx σ' H') : tFor (iList K (tVar j)) g tb D σ H :=
  ⟨_, hj, a, rfl, ⟨xs, hS⟩, for_list (xs := xs) Pv h0 hl hs hd⟩
theorem tfor_five {K : Frag} {j : Nat} {n : Int} {a : Addr} {xs : List V} {g : TG} {tb : TS} {D : Ends} {σ : L2.St} {H : Hp} (hj : σ[j]? = some (some (.ref a))) (hS : SqL K H a xs) (hz : xs.length ≤ 100000)
    (h : ∀ b H1, Same H H1 → H1 b = some (.lst (.int n :: xs)) → H b = none → ∃ Pv : Nat → L2.St → Hp → Prop, Pv 0 σ H1 ∧ (∀ i σ' H', i ≤ (V.int n :: xs).length → Pv i σ' H' → SqL K H' b (.int n :: xs)) ∧
    (∀ i x σ' H', (V.int n :: xs)[i]? = some x → Pv i σ' H' → g x σ' H' fun σ2 H2 => tb { D with nx := Pv (i + 1), ct := Pv (i + 1), bk := D.nx } σ2 H2) ∧ (∀ σ' H', Pv (V.int n :: xs).length σ' H' → D.nx σ' H')) :
    tFor (iList K (tOp (rCatS K) (tLst (tCons (tC (.int n)) tNil)) (tVar j))) g tb D σ H := by
  refine ⟨by show 1 ≤ sizeLine; decide, fun p hp => ⟨_, hj, p, a, [.int n], xs, rfl, rfl, SqL.of upd_same, (same_upd hp).seq hS, ?_, fun b hb => ?_⟩⟩
  · show 1 + xs.length ≤ sizeLine
    exact Nat.le_trans (show 1 + xs.length ≤ 100001 by omega) (by decide)
  · have s2 : Same H (upd (upd H p (.lst [.int n])) b (.lst ([.int n] ++ xs))) := (same_upd hp).trans (same_upd hb)
    obtain ⟨Pv, h0, hl, hs, hd⟩ := h b _ s2 upd_same (fresh_was hb)
    exact ⟨b, rfl, ⟨_, SqL.of upd_same⟩, for_list (xs := V.int n :: xs) Pv h0 hl hs hd⟩
theorem tfor_list {K : Frag} {tl : TE} {g : TG} {tb : TS} {D : Ends} {σ : L2.St} {H : Hp}
    (h : tl σ H fun x H1 => ∃ a xs, x = .ref a ∧ SqL K H1 a xs ∧ ∃ Pv : Nat → L2.St → Hp → Prop, Pv 0 σ H1 ∧ (∀ i σ' H', i ≤ xs.length → Pv i σ' H' → SqL K H' a xs) ∧
      (∀ i x σ' H', xs[i]? = some x → Pv i σ' H' → g x σ' H' fun σ2 H2 => tb { D with nx := Pv (i + 1), ct := Pv (i + 1), bk := D.nx } σ2 H2) ∧ ∀ σ' H', Pv xs.length σ' H' → D.nx σ' H')
    (mono : ∀ Q Q' : VK, (∀ v H', Q v H' → Q' v H') → tl σ H Q → tl σ H Q') : tFor (iList K tl) g tb D σ H :=
  mono _ _ (fun v H' ⟨a, xs, e, hS, Pv, h0, hl, hs, hd⟩ => ⟨a, e, ⟨xs, hS⟩, for_list (xs := xs) Pv h0 hl hs hd⟩) h
theorem tfor_disp {K : Frag} {ta : TA} (vs : List V) {g : TG} {tb : TS} {D : Ends} {σ : L2.St} {H : Hp} (hz : vs.length ≤ 1000) (ha : ∀ Q : List V → Hp → Prop, (∀ H1, Same H H1 → Q vs H1) → ta σ H Q)
    (h : ∀ b H1, Same H H1 → H1 b = some (.lst vs) → H b = none → ∃ Pv : Nat → L2.St → Hp → Prop, Pv 0 σ H1 ∧ (∀ i σ' H', Pv i σ' H' → SqL K H' b vs) ∧
    (∀ i x σ' H', vs[i]? = some x → Pv i σ' H' → g x σ' H' fun σ2 H2 => tb { D with nx := Pv (i + 1), ct := Pv (i + 1), bk := D.nx } σ2 H2) ∧ (∀ σ' H', Pv vs.length σ' H' → D.nx σ' H')) :
    tFor (iList K (tLst ta)) g tb D σ H :=
  ha _ fun H1 s1 => ⟨Nat.le_trans hz (by decide), fun p hp => by
    obtain ⟨Pv, h0, hl, hs, hd⟩ := h p _ (s1.trans (same_upd hp)) upd_same (s1.free hp)
    exact ⟨p, rfl, ⟨_, SqL.of upd_same⟩, for_list (xs := vs) Pv h0 (fun i σ' H' _ => hl i σ' H') hs hd⟩⟩
/-! ### any walk -/
def ForGoal (J : It) (g : TG) (tb : TS) (D : Ends) (σ : L2.St) (H : Hp) : Prop :=
  ∃ W : Nat → Nat → L2.St → Hp → Prop, (∃ m, W 0 m σ H) ∧ ∀ i m σ H, W i m σ H →
      (J.stop i H ∧ D.nx σ H) ∨ (J.go i H ∧ ∃ N : L2.St → Hp → Prop, (∀ σ' H', N σ' H' → ∃ m', m' < m ∧ W (i + 1) m' σ' H') ∧ ∀ x H', J.yld i H x H' → g x σ H' fun σ2 H2 => tb { D with nx := N, ct := N, bk := D.nx } σ2 H2)
theorem tFor_eq {wi : TI} {g : TG} {tb : TS} {D : Ends} {σ : L2.St} {H : Hp} : tFor wi g tb D σ H = wi σ H fun J H1 => ForGoal J g tb D σ H1 := rfl
theorem for_go {J : It} {n : Nat} {G : Hp → Prop} {Y : Nat → Hp → V → Hp → Prop} (w : Walk J n G Y) {g : TG} {tb : TS} {D : Ends} {σ : L2.St} {H : Hp} (Pv : Nat → L2.St → Hp → Prop) (h0 : Pv 0 σ H) (hG : ∀ i σ H, i ≤ n → Pv i σ H → G H)
    (hs : ∀ i x σ H H', i < n → Pv i σ H → Y i H x H' → g x σ H' fun σ2 H2 => tb { D with nx := Pv (i + 1), ct := Pv (i + 1), bk := D.nx } σ2 H2) (hd : ∀ σ H, Pv n σ H → D.nx σ H) : ForGoal J g tb D σ H := for_it w Pv h0 hG hs hd
theorem for_rng {lo : Int} {n : Nat} {g : TG} {tb : TS} {D : Ends} {σ : L2.St} {H : Hp} (Pv : Nat → L2.St → Hp → Prop) (h0 : Pv 0 σ H)
    (hs : ∀ (i : Nat) σ H, i < n → Pv i σ H → g (.int (lo + (i : Int))) σ H fun σ2 H2 => tb { D with nx := Pv (i + 1), ct := Pv (i + 1), bk := D.nx } σ2 H2) (hd : ∀ σ H, Pv n σ H → D.nx σ H) : ForGoal (Itr lo n) g tb D σ H := for_range Pv h0 hs hd
theorem for_rng0 {n : Nat} {g : TG} {tb : TS} {D : Ends} {σ : L2.St} {H : Hp} (Pv : Nat → L2.St → Hp → Prop) (h0 : Pv 0 σ H)
    (hs : ∀ (i : Nat) σ H, i < n → Pv i σ H → g (.int (i : Int)) σ H fun σ2 H2 => tb { D with nx := Pv (i + 1), ct := Pv (i + 1), bk := D.nx } σ2 H2) (hd : ∀ σ H, Pv n σ H → D.nx σ H) : ForGoal (Itr 0 n) g tb D σ H :=
  for_range Pv h0 (fun i σ H hi p => by rw [Int.zero_add]; exact hs i σ H hi p) hd
theorem for_lst {K : Frag} {a : Addr} (xs : List V) {g : TG} {tb : TS} {D : Ends} {σ : L2.St} {H : Hp} (Pv : Nat → L2.St → Hp → Prop) (h0 : Pv 0 σ H) (hl : ∀ i σ H, Pv i σ H → SqL K H a xs)
    (hs : ∀ (i : Nat) x σ H, xs[i]? = some x → Pv i σ H → g x σ H fun σ2 H2 => tb { D with nx := Pv (i + 1), ct := Pv (i + 1), bk := D.nx } σ2 H2) (hd : ∀ σ H, Pv xs.length σ H → D.nx σ H) : ForGoal (Itl K a) g tb D σ H :=
  for_list Pv h0 (fun i σ H _ p => hl i σ H p) hs hd
theorem for_zp {K : Frag} {a b : Addr} (xs ys : List V) (n : Nat) (hn : n = min xs.length ys.length) {g : TG} {tb : TS} {D : Ends} {σ : L2.St} {H : Hp} (Pv : Nat → L2.St → Hp → Prop) (h0 : Pv 0 σ H) (hG : ∀ i σ H, Pv i σ H → SqL K H a xs ∧ SqL K H b ys)
    (hs : ∀ (i : Nat) x y (T : Addr) σ H, i < n → xs[i]? = some x → ys[i]? = some y → Pv i σ H → H T = none → g (.ref T) σ (upd H T (.tup [x, y])) fun σ2 H2 => tb { D with nx := Pv (i + 1), ct := Pv (i + 1), bk := D.nx } σ2 H2) (hd : ∀ σ H, Pv n σ H → D.nx σ H) : ForGoal (Itz K a b) g tb D σ H :=
  for_go (walk_zip hn) Pv h0 (fun i σ H _ p => hG i σ H p) (fun i v σ H H' hi p y => by obtain ⟨T, x, y, rfl, hT, rfl, hx, hy⟩ := y; exact hs i x y T σ H hi hx hy p hT) hd
theorem for_en {K : Frag} {a : Addr} (xs : List V) {g : TG} {tb : TS} {D : Ends} {σ : L2.St} {H : Hp} (Pv : Nat → L2.St → Hp → Prop) (h0 : Pv 0 σ H) (hG : ∀ i σ H, Pv i σ H → SqL K H a xs)
    (hs : ∀ (i : Nat) x (T : Addr) σ H, xs[i]? = some x → Pv i σ H → H T = none → g (.ref T) σ (upd H T (.tup [.int (i : Int), x])) fun σ2 H2 => tb { D with nx := Pv (i + 1), ct := Pv (i + 1), bk := D.nx } σ2 H2) (hd : ∀ σ H, Pv xs.length σ H → D.nx σ H) : ForGoal (Ite K a) g tb D σ H :=
  for_go walk_enum Pv h0 (fun i σ H _ p => hG i σ H p) (fun i v σ H H' hi p y => by obtain ⟨T, x, y, rfl, hT, rfl, hx, hy⟩ := y; cases hx; exact hs i y T σ H hy p hT) hd
/-- the law's own loop, over [n] + script -/
theorem for_cells {K : Frag} {H0 : Hp} {n : Int} {b : Addr} {ns : List Int} {g : TG} {tb : TS} {D : Ends} {σ : L2.St} (hb : H0 b = some (.lst (.int n :: ns.map V.int))) (hn : Builtin.Int.intBits n ≤ 64) (hz : ∀ z ∈ ns, Builtin.Int.intBits z ≤ 1048576) (J : L2.St → Hp → Prop) (h0 : J σ H0) (hl : ∀ σ H, J σ H → Same H0 H)
    (hs : ∀ z σ H, Builtin.Int.intBits z ≤ 1048576 → J σ H → g (.int z) σ H fun σ2 H2 => tb { D with nx := J, ct := J, bk := D.nx } σ2 H2) (hd : ∀ σ H, J σ H → D.nx σ H) : ForGoal (Itl K b) g tb D σ H0 := by
  refine for_lst (.int n :: ns.map V.int) (fun _ => J) h0 (fun _ σ H j => SqL.of (hl σ H j _ _ hb)) (fun i x σ H e j => ?_) hd
  cases i with
  | zero => cases e; exact hs n σ H (Nat.le_trans hn (by decide)) j
  | succ i =>
    obtain ⟨z, e1, rfl⟩ := ref_num (ns := ns) (i := i) e
    exact hs z σ H (hz z (List.mem_of_getElem? e1)) j
theorem tfor_cells {K : Frag} {j : Nat} {n : Int} {a : Addr} {ns : List Int} {g : TG} {tb : TS} {D : Ends} {σ : L2.St} {H0 : Hp} (hj : σ[j]? = some (some (.ref a))) (hS : SqL K H0 a (ns.map V.int)) (hz : ns.length ≤ 63)
    (h : ∀ b H1, Same H0 H1 → H1 b = some (.lst (.int n :: ns.map V.int)) → ForGoal (Itl K b) g tb D σ H1) :
    tFor (iList K (tOp (rCatS K) (tLst (tCons (tC (.int n)) tNil)) (tVar j))) g tb D σ H0 := by
  refine ⟨by show 1 ≤ sizeLine; decide, fun p hp => ⟨_, hj, p, a, [.int n], ns.map V.int, rfl, rfl, SqL.of upd_same, (same_upd hp).seq hS, ?_, fun b hb => ⟨b, rfl, ⟨_, SqL.of upd_same⟩, h b _ ((same_upd hp).trans (same_upd hb)) upd_same⟩⟩⟩
  rw [List.length_map]
  exact Nat.le_trans (show 1 + ns.length ≤ 100 by omega) (by decide)
theorem for_tp {K : Frag} {a : Addr} (xs : List V) {g : TG} {tb : TS} {D : Ends} {σ : L2.St} {H : Hp} (Pv : Nat → L2.St → Hp → Prop) (h0 : Pv 0 σ H) (hl : ∀ i σ H, Pv i σ H → SqT K H a xs)
    (hs : ∀ (i : Nat) x σ H, xs[i]? = some x → Pv i σ H → g x σ H fun σ2 H2 => tb { D with nx := Pv (i + 1), ct := Pv (i + 1), bk := D.nx } σ2 H2) (hd : ∀ σ H, Pv xs.length σ H → D.nx σ H) : ForGoal (Itt K a) g tb D σ H :=
  for_tup Pv h0 (fun i σ H _ p => hl i σ H p) hs hd
theorem while_cps {c : TT} {tb : TS} {D : Ends} {σ : L2.St} {H : Hp} (Pv : L2.St → Hp → Prop) (μ : L2.St → Hp → Nat) (h0 : Pv σ H)
    (hs : ∀ σ' H', Pv σ' H' → ∀ U : Bool → Hp → Prop, (∀ H1, tb { D with nx := fun σ2 H2 => Pv σ2 H2 ∧ μ σ2 H2 < μ σ' H', ct := fun σ2 H2 => Pv σ2 H2 ∧ μ σ2 H2 < μ σ' H', bk := D.nx } σ' H1 → U true H1) → (∀ H1, D.nx σ' H1 → U false H1) → c σ' H' U) : tWhile c tb D σ H := by
  refine ⟨fun m σ H => m = μ σ H ∧ Pv σ H, ⟨_, rfl, h0⟩, ?_⟩
  rintro m σ H ⟨rfl, p⟩
  refine hs σ H p _ (fun H1 h => ?_) (fun H1 h => ?_)
  · show if true = true then _ else _
    rw [if_pos rfl]
    exact ⟨_, fun σ' H' ⟨p', l⟩ => ⟨_, l, rfl, p'⟩, h⟩
  · show if false = true then _ else _
    rw [if_neg (by decide)]
    exact h
def LcGoal (J : It) (g : TG) (tt : TT) (te : TE) (vs : List Nat) (σ : L2.St) (H1 : Hp) (Q : VK) : Prop := ∀ D, H1 D = none → ∃ W : Nat → Nat → Hp → Prop, (∃ m, W 0 m (upd H1 D (.lst []))) ∧ ∀ i m H, W i m H →
  (J.stop i H ∧ Q (.ref D) H) ∨ (J.go i H ∧ ∃ Nx : Hp → Prop, (∀ H', Nx H' → ∃ m', m' < m ∧ W (i + 1) m' H') ∧ ∀ x H', J.yld i H x H' → g x (wipe σ vs) H' fun σ2 H2 => wipe σ2 vs = wipe σ vs ∧ tt σ2 H2 fun b H3 =>
    if b = true then te σ2 H3 fun y H4 => ∃ acc, H4 D = some (.lst acc) ∧ acc.length < sizeLine ∧ Nx (upd H4 D (.lst (acc ++ [y]))) else Nx H3)
theorem tLc_eq {wi : TI} {g : TG} {tt : TT} {te : TE} {vs : List Nat} {σ : L2.St} {H : Hp} {Q : VK} : tLc wi g tt te vs σ H Q = wi σ H fun J H1 => LcGoal J g tt te vs σ H1 Q := rfl
/-- a comprehension without a test; what is told of the i-th item is told in a heap that only grows -/
theorem lc_go {J : It} {n : Nat} {G : Hp → Prop} {Y : Nat → Hp → V → Hp → Prop} (w : Walk J n G Y) {g : TG} {te : TE} {vs : List Nat} {σ : L2.St} {H1 : Hp} {Q : VK} (R : Nat → V → Hp → Prop) (hn : n < sizeLine)
    (hR : ∀ i y H H' D, H1 D = none → (∃ xs, H D = some (.lst xs)) → Same H1 H → R i y H → (∀ b o, b ≠ D → H b = some o → H' b = some o) → R i y H') (hG : ∀ H, Same H1 H → G H)
    (hs : ∀ i x H H' D (U : VK), i < n → H1 D = none → (∃ xs, H D = some (.lst xs)) → Same H1 H → Y i H x H' → (∀ y H4, R i y H4 → Same H H4 → U y H4) → g x (wipe σ vs) H' fun σ2 H2 => wipe σ2 vs = wipe σ vs ∧ te σ2 H2 U)
    (hd : ∀ p ys H, H1 p = none → Same H1 H → ys.length = n → (∀ i y, ys[i]? = some y → R i y H) → H p = some (.lst ys) → Q (.ref p) H) : LcGoal J g tYes te vs σ H1 Q := by
  intro D hD
  refine lc_it w (Pv := fun i H => Same H1 H ∧ ∃ ys : List V, H D = some (.lst ys) ∧ ys.length = i ∧ ∀ (j : Nat) y, ys[j]? = some y → R j y H) ⟨same_upd hD, [], upd_same, rfl, fun j y e => by simp at e⟩ (fun i H hi p => hG H p.1) ?_ ?_
  · rintro i x H H' hi ⟨s1, ys, hy, hl, hr⟩ y
    refine hs i x H H' D _ hi hD ⟨_, hy⟩ s1 y fun y2 H4 r s2 => ?_
    have g0 : ∀ b o, b ≠ D → H b = some o → (upd H4 D (HO.lst (ys ++ [y2]))) b = some o := fun b o hb e => by rw [upd_ne hb]; exact s2 _ _ e
    refine ⟨ys, s2 _ _ hy, by omega, fun b o e => ?_, ys ++ [y2], upd_same, by simp [hl], fun j y3 e => ?_⟩
    · have hb : b ≠ D := ne_of_none e hD
      rw [upd_ne hb]
      exact s2 _ _ (s1 _ _ e)
    · rcases Nat.lt_or_ge j ys.length with hj | hj
      · rw [List.getElem?_append_left hj] at e
        exact hR _ _ H _ D hD ⟨_, hy⟩ s1 (hr _ _ e) g0
      · have hj2 : j = i := by
          have z := (List.getElem?_eq_some_iff.mp e).1
          simp at z
          omega
        subst hj2
        rw [List.getElem?_append_right hj, hl, Nat.sub_self] at e
        cases e
        exact hR _ _ H4 _ D hD ⟨_, s2 _ _ hy⟩ (s1.trans s2) r fun b o hb e => by rw [upd_ne hb]; exact e
  · rintro H ⟨s1, ys, hy, hl, hr⟩
    exact hd D ys H hD s1 hl hr hy
/-- .. where the items are known beforehand -/
theorem lc_pure {J : It} {n : Nat} {G : Hp → Prop} {Y : Nat → Hp → V → Hp → Prop} (w : Walk J n G Y) {g : TG} {te : TE} {vs : List Nat} {σ : L2.St} {H1 : Hp} {Q : VK} (ys : List V) (hl : ys.length = n) (hn : n < sizeLine) (hG : ∀ H, Same H1 H → G H)
    (hs : ∀ (i : Nat) x y H H' (U : VK), ys[i]? = some y → Same H1 H → Y i H x H' → (∀ H4, Same H H4 → U y H4) → g x (wipe σ vs) H' fun σ2 H2 => wipe σ2 vs = wipe σ vs ∧ te σ2 H2 U)
    (hd : ∀ p H, H1 p = none → Same H1 H → H p = some (.lst ys) → Q (.ref p) H) : LcGoal J g tYes te vs σ H1 Q := by
  refine lc_go w (fun i y _ => ys[i]? = some y) hn (fun _ _ _ _ _ _ _ _ r _ => r) hG (fun i x H H' D U hi _ _ s1 y hu => ?_) fun p zs H hp s1 hz hr e => ?_
  · have e : ys[i]? = some ys[i] := List.getElem?_eq_getElem (by omega)
    exact hs i x _ H H' U e s1 y fun H4 s2 => hu _ _ e s2
  · have z : zs = ys := by
      refine List.ext_getElem? fun i => ?_
      rcases Nat.lt_or_ge i zs.length with h | h
      · rw [hr i _ (List.getElem?_eq_getElem h), List.getElem?_eq_getElem h]
      · rw [List.getElem?_eq_none h, List.getElem?_eq_none (by omega)]
    subst z
    exact hd p H hp s1 e
/-- .. with a test, over a list whose items stand for those of ts -/
theorem lc_filter {K : Frag} {α : Type} {a : Addr} {xs : List V} (ts : List α) (hl : xs.length = ts.length) (f : α → Bool) (v : α → V) {g : TG} {tt : TT} {te : TE} {vs : List Nat} {σ : L2.St} {H1 : Hp} {Q : VK} (hn : xs.length < sizeLine) (hS : SqL K H1 a xs)
    (hs : ∀ (i : Nat) x t H (U : VK) (N : Hp → Prop), xs[i]? = some x → ts[i]? = some t → Same H1 H → (f t = true → ∀ H4, Same H H4 → U (v t) H4) → (f t = false → ∀ H4, Same H H4 → N H4) → g x (wipe σ vs) H fun σ2 H2 => wipe σ2 vs = wipe σ vs ∧ tt σ2 H2 fun b H3 => if b = true then te σ2 H3 U else N H3)
    (hd : ∀ p H, H1 p = none → Same H1 H → H p = some (.lst ((ts.filter f).map v)) → Q (.ref p) H) : LcGoal (Itl K a) g tt te vs σ H1 Q := by
  intro D hD
  refine lc_list (xs := xs) (fun i H => Same H1 H ∧ H D = some (.lst (((ts.take i).filter f).map v))) ⟨same_upd hD, by simp [upd_same]⟩ (fun i H _ p => p.1.seq hS) ?_ ?_
  · rintro i x H hx ⟨s1, e⟩
    have hi := (List.getElem?_eq_some_iff.mp hx).1
    obtain ⟨t, ht⟩ : ∃ t, ts[i]? = some t := ⟨_, List.getElem?_eq_getElem (by omega)⟩
    have tk : ts.take (i + 1) = ts.take i ++ [t] := by rw [List.take_add_one, ht]; rfl
    refine hs i x t H _ _ hx ht s1 (fun ft H4 s2 => ⟨_, s2 _ _ e, ?_, fun b o e2 => ?_, ?_⟩) fun ft H4 s2 => ⟨s1.trans s2, ?_⟩
    · refine Nat.lt_of_le_of_lt ?_ hn
      rw [List.length_map]
      exact Nat.le_trans (List.length_filter_le _ _) (by simp; omega)
    · rw [upd_ne (ne_of_none e2 hD)]
      exact s2 _ _ (s1 _ _ e2)
    · rw [upd_same, tk, List.filter_append, List.map_append]
      simp [ft]
    · rw [s2 _ _ e, tk, List.filter_append, List.map_append]
      simp [ft]
  · rintro H ⟨s1, e⟩
    rw [hl, List.take_length] at e
    exact hd D H hD s1 e
theorem ix_last {K : Frag} {a : Addr} {xs : List V} {v : V} {H : Hp} {Q : VK} (hS : SqL K H a xs) (e : xs.getLast? = some v) (q : Q v H) : rIxL K (.ref a) (.int (-1)) H Q := by
  have hn : xs ≠ [] := by intro z; rw [z] at e; cases e
  have hl : xs.length ≠ 0 := fun z => hn (List.length_eq_zero_iff.mp z)
  refine ⟨a, xs, -1, v, rfl, rfl, hS, ?_, q⟩
  unfold atI ixN
  rw [if_neg (by decide), if_pos (by omega), show ((-1 : Int) + (xs.length : Int)).toNat = xs.length - 1 by omega]
  rw [List.getLast?_eq_getElem?] at e
  exact e
theorem ints_of {P : Int → Prop} : ∀ {ys : List V}, (∀ (i : Nat) y, ys[i]? = some y → ∃ v, y = .int v ∧ P v) → ∃ ns : List Int, ys = ns.map V.int ∧ ∀ v ∈ ns, P v
  | [], _ => ⟨[], rfl, fun _ h => by simp at h⟩
  | y :: r, h => by
    obtain ⟨v, rfl, hv⟩ := h 0 y rfl
    obtain ⟨ns, rfl, hn⟩ := ints_of (ys := r) fun i y e => h (i + 1) y e
    exact ⟨v :: ns, rfl, fun w hw => by rcases List.mem_cons.mp hw with rfl | hw; exact hv; exact hn w hw⟩
/-- a comprehension whose items are ints of which P holds -/
theorem lc_ints {J : It} {n : Nat} {G : Hp → Prop} {Y : Nat → Hp → V → Hp → Prop} (w : Walk J n G Y) (P : Int → Prop) {g : TG} {te : TE} {vs : List Nat} {σ : L2.St} {H1 : Hp} {Q : VK} (hn : n < sizeLine) (hG : ∀ H, Same H1 H → G H)
    (hs : ∀ i x H H' (U : VK), i < n → Same H1 H → Y i H x H' → (∀ v H4, P v → Same H H4 → U (.int v) H4) → g x (wipe σ vs) H' fun σ2 H2 => wipe σ2 vs = wipe σ vs ∧ te σ2 H2 U)
    (hd : ∀ p (ns : List Int) H, H1 p = none → Same H1 H → ns.length = n → (∀ v ∈ ns, P v) → H p = some (.lst (ns.map V.int)) → Q (.ref p) H) : LcGoal J g tYes te vs σ H1 Q := by
  refine lc_go w (fun _ y _ => ∃ v, y = .int v ∧ P v) hn (fun _ _ _ _ _ _ _ _ r _ => r) hG (fun i x H H' D U hi _ _ s1 y hu => hs i x H H' U hi s1 y fun v H4 p s2 => hu _ _ ⟨v, rfl, p⟩ s2) fun p ys H hp s1 hl hr e => ?_
  obtain ⟨ns, rfl, hp2⟩ := ints_of hr
  exact hd p ns H hp s1 (by simpa using hl) hp2 e
/-! ### slices -/
theorem cut_from {xs : List V} {k : Int} (hk : 0 ≤ k) : cutV xs (some k) none = xs.drop k.toNat := by
  obtain ⟨j, rfl⟩ := Int.eq_ofNat_of_zero_le hk
  unfold cutV
  rw [HT.sIx_nat, HT.sIx_none, Int.toNat_natCast]
  rcases Nat.le_total j xs.length with h | h
  · rw [Nat.min_eq_left h, List.take_of_length_le (by simp)]
  · rw [Nat.min_eq_right h, List.drop_of_length_le h, List.drop_length, List.take_nil]
theorem cut_to {xs : List V} {k : Int} (hk : 0 ≤ k) : cutV xs none (some k) = xs.take k.toNat := by
  obtain ⟨j, rfl⟩ := Int.eq_ofNat_of_zero_le hk
  unfold cutV
  rw [HT.sIx_nat, HT.sIx_none, Int.toNat_natCast, List.drop_zero, Nat.sub_zero]
  rcases Nat.le_total j xs.length with h | h
  · rw [Nat.min_eq_left h]
  · rw [Nat.min_eq_right h, List.take_of_length_le h, List.take_length]
/-! ### lists whose items tell something -/
inductive All2 {α : Type} (R : V → α → Prop) : List V → List α → Prop
  | nil : All2 R [] []
  | cons {x t xs ts} : R x t → All2 R xs ts → All2 R (x :: xs) (t :: ts)
namespace All2
variable {α : Type} {R S : V → α → Prop}
theorem len {xs : List V} {ts : List α} (h : All2 R xs ts) : xs.length = ts.length := by
  induction h with
  | nil => rfl
  | cons _ _ ih => rw [List.length_cons, List.length_cons, ih]
theorem mono {xs : List V} {ts : List α} (h : All2 R xs ts) (k : ∀ x t, R x t → S x t) : All2 S xs ts := by
  induction h with
  | nil => exact .nil
  | cons r _ ih => exact .cons (k _ _ r) ih
theorem get {xs : List V} {ts : List α} (h : All2 R xs ts) : ∀ {i : Nat} {x : V}, xs[i]? = some x → ∃ t, ts[i]? = some t ∧ R x t := by
  induction h with
  | nil => intro i x e; simp at e
  | cons r _ ih =>
    intro i x e
    cases i with
    | zero => cases e; exact ⟨_, rfl, r⟩
    | succ j => exact ih e
theorem of {xs : List V} : ∀ {ts : List α}, xs.length = ts.length → (∀ (i : Nat) x t, xs[i]? = some x → ts[i]? = some t → R x t) → All2 R xs ts := by
  induction xs with
  | nil => intro ts hl _; cases ts with
    | nil => exact .nil
    | cons _ _ => cases hl
  | cons x xs ih => intro ts hl h; cases ts with
    | nil => cases hl
    | cons t ts => exact .cons (h 0 x t rfl rfl) (ih (by simpa using hl) fun i x t e1 e2 => h (i + 1) x t e1 e2)
theorem snoc {xs : List V} {ts : List α} {x : V} {t : α} (h : All2 R xs ts) (r : R x t) : All2 R (xs ++ [x]) (ts ++ [t]) := by
  induction h with
  | nil => exact .cons r .nil
  | cons r2 _ ih => exact .cons r2 ih
theorem append {xs ys : List V} {ts us : List α} (h : All2 R xs ts) (h2 : All2 R ys us) : All2 R (xs ++ ys) (ts ++ us) := by
  induction h with
  | nil => exact h2
  | cons r _ ih => exact .cons r ih
theorem drop {xs : List V} {ts : List α} (h : All2 R xs ts) : ∀ k, All2 R (xs.drop k) (ts.drop k) := by
  induction h with
  | nil => intro k; rw [List.drop_nil, List.drop_nil]; exact .nil
  | cons r h ih => intro k; cases k with
    | zero => exact .cons r h
    | succ k => exact ih k
theorem take {xs : List V} {ts : List α} (h : All2 R xs ts) : ∀ k, All2 R (xs.take k) (ts.take k) := by
  induction h with
  | nil => intro k; rw [List.take_nil, List.take_nil]; exact .nil
  | cons r h ih => intro k; cases k with
    | zero => exact .nil
    | succ k => exact .cons r (ih k)
end All2
/-- a pair of ints -/
def Pr (K : Frag) (H : Hp) : V → Int × Int → Prop := fun x t => ∃ r, x = .ref r ∧ SqT K H r [.int t.1, .int t.2]
theorem Pr.same {K : Frag} {H H' : Hp} {x : V} {t : Int × Int} (s : Same H H') (h : Pr K H x t) : Pr K H' x t := by
  obtain ⟨r, e, q⟩ := h
  exact ⟨r, e, same_tup s q⟩
/-- a list of pairs of ints -/
def Prs (K : Frag) (H : Hp) (a : Addr) (ts : List (Int × Int)) : Prop := ∃ xs, SqL K H a xs ∧ All2 (Pr K H) xs ts
theorem Prs.same {K : Frag} {H H' : Hp} {a : Addr} {ts : List (Int × Int)} (s : Same H H') (h : Prs K H a ts) : Prs K H' a ts := by
  obtain ⟨xs, q, h⟩ := h
  exact ⟨xs, s.seq q, h.mono fun _ _ => Pr.same s⟩
/-- .. compared -/
def pdP (t : Int × Int) : PyData := .tuple [.int t.1, .int t.2]
theorem dp_prs {K : Frag} {H : Hp} {xs : List V} {ts : List (Int × Int)} (h : All2 (Pr K H) xs ts) : DpAll K H xs (ts.map pdP) := by
  induction h with
  | nil => exact .nil
  | cons r _ ih =>
    obtain ⟨r, rfl, hr⟩ := r
    exact .cons (.tup hr (.cons (.int _) (.cons (.int _) .nil))) ih
theorem Prs.dp {K : Frag} {H : Hp} {a : Addr} {ts : List (Int × Int)} (h : Prs K H a ts) : Dp K H (.ref a) (.list (ts.map pdP)) := by
  obtain ⟨xs, hS, hA⟩ := h
  exact .lst hS (dp_prs hA)
theorem lay_prs : ∀ ts : List (Int × Int), PyData.canLayAll0 (ts.map pdP) = true
  | [] => rfl
  | t :: r => by simp only [List.map_cons, PyData.canLayAll0, lay_prs r, pdP, PyData.canLay0, Bool.and_true]
theorem depth_prs : ∀ ts : List (Int × Int), PyData.depthAll (ts.map pdP) ≤ 1
  | [] => by simp [PyData.depthAll]
  | t :: r => by
    have := depth_prs r
    simp only [List.map_cons, PyData.depthAll, pdP, PyData.depth]
    omega
theorem shaped_prs {ts : List (Int × Int)} : SeqAt.shaped (.list (ts.map pdP)) = true :=
  shaped_of (by simp only [PyData.canLay0]; exact lay_prs ts) (by have := depth_prs ts; simp only [PyData.depth]; omega)
theorem eqv_prs : ∀ ts us : List (Int × Int), PyData.eqvAll (ts.map pdP) (us.map pdP) = decide (ts = us)
  | [], [] => by simp [PyData.eqvAll]
  | [], y :: ys => by simp [PyData.eqvAll]
  | x :: xs, [] => by simp [PyData.eqvAll]
  | x :: xs, y :: ys => by
    have ih := eqv_prs xs ys
    simp only [List.map_cons, PyData.eqvAll, ih, List.cons.injEq, pdP, PyData.eqv, Bool.and_true]
    by_cases e : x = y
    · subst e; simp
    · have : ¬(x.1 = y.1 ∧ x.2 = y.2) := fun z => e (Prod.ext z.1 z.2)
      by_cases e1 : x.1 = y.1 <;> by_cases e2 : x.2 = y.2 <;> simp_all
theorem ne_prs {K : Frag} {H : Hp} {p q : Addr} {ts us : List (Int × Int)} {Q : VK} (hp : Prs K H p ts) (hq : Prs K H q us) (k : Q (.bl (!decide (ts = us))) H) : rNeD K (.ref p) (.ref q) H Q :=
  ⟨_, _, hp.dp, hq.dp, shaped_prs, shaped_prs, by simp only [PyData.eqv, eqv_prs]; exact k⟩
theorem eq_prs {K : Frag} {H : Hp} {p q : Addr} {ts us : List (Int × Int)} {Q : VK} (hp : Prs K H p ts) (hq : Prs K H q us) (k : Q (.bl (decide (ts = us))) H) : rEqD K (.ref p) (.ref q) H Q :=
  ⟨_, _, hp.dp, hq.dp, shaped_prs, shaped_prs, by simp only [PyData.eqv, eqv_prs]; exact k⟩
/-! ### the law's end -/
def spLaw (K : Frag) : Sp := fun vs H Q _ => ∃ (a : Addr) (ns : List Int), vs = [.ref a] ∧ SqL K H a (ns.map V.int) ∧ ns.length ≤ 63 ∧ (∀ z ∈ ns, Builtin.Int.intBits z ≤ 1048576) ∧ ∀ H', Q (.bl true) H'
theorem walk {l : PySem.W.OpenLaw} {k : Nat} {q : Program} {loose : List Str} {XP : (Str → Option Value) → Heap → Prop} {YP : World → Heap → Prop} {d : DefRec} {K : Params → Frag}
    (hn : l.most = some 63) (hdf : d.params.defaults = []) (hr : Room k callerA) (hY : ∀ (w : World) (h : Heap), YP w h → (K w.params).In h)
    (F : ∀ (w : World) (mg : Str → Option Value) (fa : Addr) (h : Heap), (K w.params).In h → h.Ns mainGlobals mg → mg d.name = some (.ref fa) →
      ∃ fd : FuncData, (∀ (s : Shared) (u : Value), BindsTo s fd ⟨[u], []⟩ [(("script" : Str), u)]) ∧ ∀ base : Heap, (K w.params).In base → base.Ns mainGlobals mg → FnOk l.prog w (K w.params) mg base CX0 k fa fd ["script"] (spLaw (K w.params))) :
    PySem.W.WalkO q loose XP YP l.row.toRowW d [] (fun f vs => PySem.call f vs) :=
  L2.walk_ofB (n := 63) (k := k) (x := "script") (CX := fun _ => CX0) (sp := fun w => spLaw (K w.params)) hn (by decide) hdf hr hY F
    (fun _ _ a ns hl hb _ hS => ⟨a, ns, rfl, hS, hl, hb, fun _ => rfl⟩) fun _ _ _ _ _ z => z
end Kv

set_option Elab.async false
set_option linter.all false
set_option maxRecDepth 100000
set_option maxHeartbeats 4000000
/-! Mi: a program as a function over plain data: values (D), own lists and objects by content, and what ties a reading to it. -/
namespace Mi
open PySem PySem.Spec PyProof.Rows L2
abbrev Frag := PySem.W.Frag
inductive D where
  | non | bl (b : Bool) | int (i : Int) | str (s : Str) | tup (xs : List D) | lst (xs : List D) | ob (j : Nat) | ty (n : String)
/-- what stands in a list or dict of one owner -/
inductive BX where
  | lst (xs : List D) | dct (kvs : List (Key × D)) | fz (kvs : List (Key × D))
inductive FV where
  | dat (d : D) | bx (b : BX)
inductive Ob where
  | ins (c : Str) (fs : List (Str × FV)) | bx (b : BX)
/-- a slot of a def; a value on the way -/
inductive SV where
  | dat (d : D) | own (b : BX) | io (k : Nat) | fl (j : Nat) (f : Str) | exc
inductive EV where
  | dat (d : D) | sl (i : Nat) | io (k : Nat) | fl (j : Nat) (f : Str) | exc | tp (b : BX)
structure St where
  env : List (Option SV)
  io : List BX
  S : List Ob
inductive R (α : Type) where
  | ok (a : α) (st : St) | err (e : Kv.Er) (st : St) | stuck
abbrev M (α : Type) := St → R α
def R.bind {α β : Type} (r : R α) (f : α → St → R β) : R β := match r with
  | .ok a st => f a st
  | .err e st => .err e st
  | .stuck => .stuck
def M.bind {α β : Type} (m : M α) (f : α → M β) : M β := fun st => (m st).bind f
def M.pure {α : Type} (a : α) : M α := fun st => .ok a st
def M.stuck {α : Type} : M α := fun _ => .stuck
def M.err {α : Type} (e : Kv.Er) : M α := fun st => .err e st
inductive Tag where
  | sl (i : Nat) | io (k : Nat) | ob (j : Nat) | dx (j : Nat) | fd (j : Nat) (f : Str) | tm (k : Nat) | xt
  deriving DecidableEq
/-- places of which there may be more than one with the tag -/
@[simp] def Tag.sh : Tag → Bool
  | .ob _ => true
  | .dx _ => true
  | .xt => true
  | _ => false
structure Wd where
  F : Hp
  ρ : List Addr
  ow : Addr → Option Tag
  xa : Addr × Bool
section
variable {K : Frag}
mutual
inductive Rep (K : Frag) (F : Hp) (ρ : List Addr) : V → D → Prop
  | non : Rep K F ρ .non .non
  | bl (b : Bool) : Rep K F ρ (.bl b) (.bl b)
  | int (i : Int) : Rep K F ρ (.int i) (.int i)
  | str (s : Str) : Rep K F ρ (.str s) (.str s)
  | ty (n : String) : Rep K F ρ (.ty n) (.ty n)
  | tup {a : Addr} {vs : List V} {ds : List D} : SqT K F a vs → RepL K F ρ vs ds → Rep K F ρ (.ref a) (.tup ds)
  | lst {a : Addr} {vs : List V} {ds : List D} : SqL K F a vs → RepL K F ρ vs ds → Rep K F ρ (.ref a) (.lst ds)
  | ob {a : Addr} {j : Nat} : ρ[j]? = some a → Rep K F ρ (.ref a) (.ob j)
inductive RepL (K : Frag) (F : Hp) (ρ : List Addr) : List V → List D → Prop
  | nil : RepL K F ρ [] []
  | cons {v : V} {d : D} {vs : List V} {ds : List D} : Rep K F ρ v d → RepL K F ρ vs ds → RepL K F ρ (v :: vs) (d :: ds)
end
mutual
theorem Rep.mono {F F' : Hp} {ρ ρ' : List Addr} (s : Same F F') (p : ρ <+: ρ') : ∀ {v : V} {d : D}, Rep K F ρ v d → Rep K F' ρ' v d
  | _, _, .non => .non
  | _, _, .bl b => .bl b
  | _, _, .int i => .int i
  | _, _, .str x => .str x
  | _, _, .ty x => .ty x
  | _, _, .tup h l => .tup (Kv.same_tup s h) (RepL.mono s p l)
  | _, _, .lst h l => .lst (s.seq h) (RepL.mono s p l)
  | _, _, .ob h => .ob (by
      obtain ⟨t, rfl⟩ := p
      have hl := (List.getElem?_eq_some_iff.mp h).1
      rw [List.getElem?_append_left hl]
      exact h)
theorem RepL.mono {F F' : Hp} {ρ ρ' : List Addr} (s : Same F F') (p : ρ <+: ρ') : ∀ {vs : List V} {ds : List D}, RepL K F ρ vs ds → RepL K F' ρ' vs ds
  | _, _, .nil => .nil
  | _, _, .cons h t => .cons (Rep.mono s p h) (RepL.mono s p t)
end
theorem RepL.len {F : Hp} {ρ : List Addr} : ∀ {vs : List V} {ds : List D}, RepL K F ρ vs ds → vs.length = ds.length
  | _, _, .nil => rfl
  | _, _, .cons _ t => by rw [List.length_cons, List.length_cons, t.len]
theorem RepL.get {F : Hp} {ρ : List Addr} : ∀ {vs : List V} {ds : List D} {i : Nat} {d : D}, RepL K F ρ vs ds → ds[i]? = some d → ∃ v, vs[i]? = some v ∧ Rep K F ρ v d
  | _, _, i, _, .nil, e => by simp at e
  | _, _, 0, _, .cons r _, e => by cases e; exact ⟨_, rfl, r⟩
  | _, _, i + 1, _, .cons _ t, e => t.get (i := i) e
theorem RepL.append {F : Hp} {ρ : List Addr} : ∀ {vs us : List V} {ds es : List D}, RepL K F ρ vs ds → RepL K F ρ us es → RepL K F ρ (vs ++ us) (ds ++ es)
  | _, _, _, _, .nil, h => h
  | _, _, _, _, .cons r t, h => .cons r (t.append h)
theorem RepL.drop {F : Hp} {ρ : List Addr} : ∀ {vs : List V} {ds : List D} (n : Nat), RepL K F ρ vs ds → RepL K F ρ (vs.drop n) (ds.drop n)
  | _, _, 0, h => h
  | _, _, _ + 1, .nil => .nil
  | _, _, n + 1, .cons _ t => t.drop n
theorem RepL.take {F : Hp} {ρ : List Addr} : ∀ {vs : List V} {ds : List D} (n : Nat), RepL K F ρ vs ds → RepL K F ρ (vs.take n) (ds.take n)
  | _, _, 0, _ => .nil
  | _, _, _ + 1, .nil => .nil
  | _, _, n + 1, .cons r t => .cons r (t.take n)
theorem RepL.set {F : Hp} {ρ : List Addr} {v : V} {d : D} (r : Rep K F ρ v d) : ∀ {vs : List V} {ds : List D} (n : Nat), RepL K F ρ vs ds → RepL K F ρ (vs.set n v) (ds.set n d)
  | _, _, _, .nil => .nil
  | _, _, 0, .cons _ t => .cons r t
  | _, _, n + 1, .cons q t => .cons q (t.set r n)
def BxOk (K : Frag) (W : Wd) (H : Hp) (p : Addr) : BX → Prop
  | .lst ds => ∃ vs, H p = some (.lst vs) ∧ RepL K W.F W.ρ vs ds
  | .dct kvs => ∃ kv : List (Key × V), H p = some (.dK kv) ∧ kv.map (·.1) = kvs.map (·.1) ∧ RepL K W.F W.ρ (kv.map (·.2)) (kvs.map (·.2))
  | .fz kvs => ∃ (o : Obj) (kv : List (Key × V)), H p = some (.frz o (.dK kv)) ∧ kv.map (·.1) = kvs.map (·.1) ∧ RepL K W.F W.ρ (kv.map (·.2)) (kvs.map (·.2))
def SlOk (K : Frag) (W : Wd) (σ : L2.St) (H : Hp) (i : Nat) : SV → Prop
  | .dat d => ∃ v, σ[i]? = some (some v) ∧ Rep K W.F W.ρ v d
  | .own b => ∃ p, σ[i]? = some (some (.ref p)) ∧ W.ow p = some (.sl i) ∧ BxOk K W H p b
  | .io k => ∃ p, σ[i]? = some (some (.ref p)) ∧ W.ow p = some (.io k)
  | .fl j f => ∃ p, σ[i]? = some (some (.ref p)) ∧ W.ow p = some (.fd j f)
  | .exc => σ[i]? = some (some (.ref W.xa.1))
def EvOk (K : Frag) (W : Wd) (H : Hp) (σ : L2.St) (v : V) : EV → Prop
  | .dat d => Rep K W.F W.ρ v d
  | .sl i => σ[i]? = some (some v)
  | .io k => ∃ p, v = .ref p ∧ W.ow p = some (.io k)
  | .fl j f => ∃ p, v = .ref p ∧ W.ow p = some (.fd j f)
  | .exc => v = .ref W.xa.1
  | .tp b => ∃ p, v = .ref p ∧ W.F p = none ∧ W.ow p = none ∧ BxOk K W H p b
def FvOk (K : Frag) (W : Wd) (H : Hp) (j : Nat) (f : Str) (v : V) : FV → Prop
  | .dat d => Rep K W.F W.ρ v d
  | .bx b => ∃ p, v = .ref p ∧ W.ow p = some (.fd j f) ∧ BxOk K W H p b
inductive FsOk (K : Frag) (W : Wd) (H : Hp) (j : Nat) : List (Str × V) → List (Str × FV) → Prop
  | nil : FsOk K W H j [] []
  | cons {f : Str} {v : V} {x : FV} {vs : List (Str × V)} {xs : List (Str × FV)} : FvOk K W H j f v x → FsOk K W H j vs xs → FsOk K W H j ((f, v) :: vs) ((f, x) :: xs)
def ObOk (K : Frag) (cl : (Str → Addr) × Addr × Bool) (W : Wd) (H : Hp) (j : Nat) : Ob → Prop
  | .ins c fs => ∃ a dx vs, W.ρ[j]? = some a ∧ W.ow a = some (.ob j) ∧ W.ow dx = some (.dx j) ∧ H dx = some (.own a) ∧ H a = some (.ins (cl.1 c) dx vs) ∧ FsOk K W H j vs fs
  | .bx b => ∃ a, W.ρ[j]? = some a ∧ W.ow a = some (.ob j) ∧ BxOk K W H a b
structure Inv (K : Frag) (cl : (Str → Addr) × Addr × Bool) (W : Wd) (σ : L2.St) (H : Hp) (st : St) : Prop where
  xeq : W.xa = cl.2
  nt : W.xa.2 = false → ∀ p k, W.ow p ≠ some (.tm k)
  sub : Same W.F H
  out : ∀ p t, W.ow p = some t → W.F p = none ∧ ∃ o, H p = some o
  inj : ∀ p q t, W.ow p = some t → W.ow q = some t → t.sh = false → p = q
  len : σ.length = st.env.length
  slots : ∀ i sv, st.env[i]? = some (some sv) → SlOk K W σ H i sv
  ios : ∀ k b, st.io[k]? = some b → ∃ p, W.ow p = some (.io k) ∧ BxOk K W H p b
  rlen : W.ρ.length = st.S.length
  obs : ∀ j o, st.S[j]? = some o → ObOk K cl W H j o
/-- locked -/
def IsFz (o : HO) : Prop := ∃ d u, o = .frz d u
structure Ext (W : Wd) (H : Hp) (W' : Wd) (H' : Hp) : Prop where
  sF : Same W.F W'.F
  rr : W.ρ <+: W'.ρ
  ow : ∀ p t, W.ow p = some t → (∀ i, t ≠ .sl i) → W'.ow p = some t
  un : ∀ p o, H p = some o → (W.ow p = none ∨ W.ow p = some .xt ∨ IsFz o) → H' p = some o
  xt : ∀ p, W'.ow p = some .xt → W.ow p = some .xt
  nw : ∀ p o, H p = some o → W.ow p = none → W'.ow p = none
  lv : ∀ p, H' p = none → H p = none
  fz : ∀ p o, H p = some o → W.ow p = none → W.F p = none → W'.F p = none
  xa : W'.xa = W.xa
theorem Ext.refl (W : Wd) (H : Hp) : Ext W H W H := ⟨Same.refl _, List.prefix_refl _, fun _ _ h _ => h, fun _ _ h _ => h, fun _ h => h, fun _ _ _ h => h, fun _ h => h, fun _ _ _ _ h => h, rfl⟩
theorem Ext.trans {W W1 W2 : Wd} {H H1 H2 : Hp} (a : Ext W H W1 H1) (b : Ext W1 H1 W2 H2) : Ext W H W2 H2 := by
  refine ⟨a.sF.trans b.sF, a.rr.trans b.rr, fun p t h n => b.ow p t (a.ow p t h n) n, fun p o h q => ?_, fun p h => a.xt p (b.xt p h), fun p o h n => b.nw p o (a.un p o h (.inl n)) (a.nw p o h n), fun p h => a.lv p (b.lv p h), fun p o h n f => b.fz p o (a.un p o h (.inl n)) (a.nw p o h n) (a.fz p o h n f), b.xa.trans a.xa⟩
  refine b.un p o (a.un p o h q) ?_
  rcases q with q | q | q
  · exact .inl (a.nw p o h q)
  · exact .inr (.inl (a.ow p _ q (fun i => by simp)))
  · exact .inr (.inr q)
theorem Rep.ext {W W' : Wd} {H H' : Hp} {v : V} {d : D} (x : Ext W H W' H') (h : Rep K W.F W.ρ v d) : Rep K W'.F W'.ρ v d := h.mono x.sF x.rr
theorem RepL.ext {W W' : Wd} {H H' : Hp} {v : List V} {d : List D} (x : Ext W H W' H') (h : RepL K W.F W.ρ v d) : RepL K W'.F W'.ρ v d := h.mono x.sF x.rr
theorem BxOk.kp {W W' : Wd} {H H' : Hp} {p : Addr} {b : BX} (sF : Same W.F W'.F) (rr : W.ρ <+: W'.ρ) (hp : H' p = H p) (h : BxOk K W H p b) : BxOk K W' H' p b := by
  cases b with
  | lst ds => obtain ⟨vs, e, r⟩ := h; exact ⟨vs, hp.trans e, r.mono sF rr⟩
  | dct kvs => obtain ⟨vs, e, e2, r⟩ := h; exact ⟨vs, hp.trans e, e2, r.mono sF rr⟩
  | fz kvs => obtain ⟨o, vs, e, e2, r⟩ := h; exact ⟨o, vs, hp.trans e, e2, r.mono sF rr⟩
theorem EvOk.ext {W W' : Wd} {H H' : Hp} {σ : L2.St} {v : V} {ev : EV} (x : Ext W H W' H') (h : EvOk K W H σ v ev) : EvOk K W' H' σ v ev := by
  cases ev with
  | dat d => exact Rep.ext x h
  | sl i => exact h
  | io k => obtain ⟨p, e, q⟩ := h; exact ⟨p, e, x.ow p _ q (fun i => by simp)⟩
  | fl j f => obtain ⟨p, e, q⟩ := h; exact ⟨p, e, x.ow p _ q (fun i => by simp)⟩
  | exc => exact h.trans (by rw [x.xa])
  | tp b =>
    obtain ⟨p, e, z1, z2, k⟩ := h
    obtain ⟨o, ho⟩ : ∃ o, H p = some o := by
      cases b with
      | lst ds => obtain ⟨vs, e, _⟩ := k; exact ⟨_, e⟩
      | dct ds => obtain ⟨vs, e, _⟩ := k; exact ⟨_, e⟩
      | fz ds => obtain ⟨_, vs, e, _⟩ := k; exact ⟨_, e⟩
    exact ⟨p, e, x.fz p o ho z2 z1, x.nw p o ho z2, k.kp x.sF x.rr (by rw [ho]; exact x.un p o ho (.inl z2))⟩
/-! ### what a step leaves -/
def Res {α : Type} (K : Frag) (cl : (Str → Addr) × Addr × Bool) (E : Kv.Er → L2.St → Hp → Prop) (W : Wd) (σ : L2.St) (H : Hp) (r : R α) (Q : α → St → Wd → Hp → Prop) : Prop := match r with
  | .ok a st' => ∀ W' H', Inv K cl W' σ H' st' → Ext W H W' H' → Q a st' W' H'
  | .err e st' => ∀ W' H', Inv K cl W' σ H' st' → Ext W H W' H' → E e σ H'
  | .stuck => False
section
variable {cl : (Str → Addr) × Addr × Bool} {E : Kv.Er → L2.St → Hp → Prop} {W : Wd} {σ : L2.St} {H : Hp}
theorem Res.imp {α : Type} {r : R α} {Q Q' : α → St → Wd → Hp → Prop} (h : Res K cl E W σ H r Q) (k : ∀ a st' W' H', r = .ok a st' → Inv K cl W' σ H' st' → Ext W H W' H' → Q a st' W' H' → Q' a st' W' H') : Res K cl E W σ H r Q' := by
  cases r with
  | ok a st' => exact fun W' H' I x => k a st' W' H' rfl I x (h W' H' I x)
  | err e st' => exact h
  | stuck => exact h
theorem Res.bind {α β : Type} {r : R α} {f : α → St → R β} {Q : β → St → Wd → Hp → Prop} (h : Res K cl E W σ H (r.bind f) Q) : Res K cl E W σ H r fun a st1 W1 H1 => Res K cl E W1 σ H1 (f a st1) Q := by
  cases r with
  | ok a st1 =>
    intro W1 H1 I1 x1
    have h : Res K cl E W σ H (f a st1) Q := h
    show Res K cl E W1 σ H1 (f a st1) Q
    revert h
    cases f a st1 with
    | ok b st2 => exact fun h W2 H2 I2 x2 => h W2 H2 I2 (x1.trans x2)
    | err e st2 => exact fun h W2 H2 I2 x2 => h W2 H2 I2 (x1.trans x2)
    | stuck => exact fun h => h
  | err e st1 => exact h
  | stuck => exact h
theorem Res.now {α : Type} {a : α} {st : St} {Q : α → St → Wd → Hp → Prop} (h : Res K cl E W σ H (.ok a st) Q) (I : Inv K cl W σ H st) : Q a st W H := h W H I (Ext.refl W H)
end
def SimE (K : Frag) (cl : (Str → Addr) × Addr × Bool) (E : Kv.Er → L2.St → Hp → Prop) (te : TE) (me : M EV) : Prop := ∀ W σ H st, Inv K cl W σ H st → ∀ Q : VK,
  Res K cl E W σ H (me st) (fun ev _ W' H' => ∀ v, EvOk K W' H' σ v ev → Q v H') → te σ H Q
/-- a new list -/
def SimN (K : Frag) (cl : (Str → Addr) × Addr × Bool) (E : Kv.Er → L2.St → Hp → Prop) (te : TE) (me : M BX) : Prop := ∀ W σ H st, Inv K cl W σ H st → ∀ Q : VK,
  Res K cl E W σ H (me st) (fun b _ W' H' => ∀ p, H p = none → W'.F p = none → W'.ow p = none → BxOk K W' H' p b → Q (.ref p) H') → te σ H Q
def SimT (K : Frag) (cl : (Str → Addr) × Addr × Bool) (E : Kv.Er → L2.St → Hp → Prop) (tt : TT) (mt : M Bool) : Prop := ∀ W σ H st, Inv K cl W σ H st → ∀ Q : Bool → Hp → Prop,
  Res K cl E W σ H (mt st) (fun b _ _ H' => Q b H') → tt σ H Q
inductive EvsOk (K : Frag) (W : Wd) (H : Hp) (σ : L2.St) : List V → List EV → Prop
  | nil : EvsOk K W H σ [] []
  | cons {v : V} {ev : EV} {vs : List V} {evs : List EV} : EvOk K W H σ v ev → EvsOk K W H σ vs evs → EvsOk K W H σ (v :: vs) (ev :: evs)
/-- lists on the way were not there before, and are not the same -/
inductive FrOk (H : Hp) : List V → List EV → Prop
  | nil : FrOk H [] []
  | cons {v : V} {ev : EV} {vs : List V} {evs : List EV} : (∀ b, ev = .tp b → ∃ p, v = .ref p ∧ H p = none ∧ ∀ (i : Nat) (b' : BX), evs[i]? = some (EV.tp b') → vs[i]? ≠ some (V.ref p)) → FrOk H vs evs → FrOk H (v :: vs) (ev :: evs)
theorem FrOk.lv {H H1 : Hp} (lv : ∀ p, H1 p = none → H p = none) : ∀ {vs : List V} {evs : List EV}, FrOk H1 vs evs → FrOk H vs evs
  | _, _, .nil => .nil
  | _, _, .cons h t => .cons (fun b e => by obtain ⟨p, e1, e2, e3⟩ := h b e; exact ⟨p, e1, lv p e2, e3⟩) (t.lv lv)
theorem FrOk.get {H : Hp} : ∀ {vs : List V} {evs : List EV} {i : Nat} {b : BX}, FrOk H vs evs → evs[i]? = some (.tp b) → ∃ p, vs[i]? = some (.ref p) ∧ H p = none
  | _, _, i, b, .nil, e => by simp at e
  | _, _, 0, b, .cons h _, e => by cases e; obtain ⟨p, rfl, e2, _⟩ := h b rfl; exact ⟨p, rfl, e2⟩
  | _, _, i + 1, b, .cons _ t, e => t.get (i := i) e
def SimA (K : Frag) (cl : (Str → Addr) × Addr × Bool) (E : Kv.Er → L2.St → Hp → Prop) (ta : TA) (ma : M (List EV)) : Prop := ∀ W σ H st, Inv K cl W σ H st → ∀ Q : List V → Hp → Prop,
  Res K cl E W σ H (ma st) (fun evs _ W' H' => ∀ vs, EvsOk K W' H' σ vs evs → FrOk H vs evs → Q vs H') → ta σ H Q
section
variable {cl : (Str → Addr) × Addr × Bool} {E : Kv.Er → L2.St → Hp → Prop} {W : Wd} {σ : L2.St} {H : Hp} {ta tb tc : TE} {ma mb mc : M EV}
/-! ### values -/
def mC (d : D) : M EV := M.pure (.dat d)
def scV : D → Option V
  | .non => some .non
  | .bl b => some (.bl b)
  | .int i => some (.int i)
  | .str s => some (.str s)
  | .ty s => some (.ty s)
  | _ => none
theorem scV_rep {F : Hp} {ρ : List Addr} {d : D} {v v' : V} (h : scV d = some v) (r : Rep K F ρ v' d) : v' = v := by
  cases d <;> cases h <;> cases r <;> rfl
theorem scV_mk {F : Hp} {ρ : List Addr} {d : D} {v : V} (h : scV d = some v) : Rep K F ρ v d := by
  cases d <;> cases h <;> constructor
theorem sE_c {v : V} {d : D} (h : scV d = some v := by rfl) : SimE K cl E (tC v) (mC d) := fun W σ H st I Q q => q.now I v (scV_mk h)
def mVar (i : Nat) : M EV := fun st => match st.env[i]? with
  | some (some (.dat d)) => .ok (.dat d) st
  | some (some (.own _)) => .ok (.sl i) st
  | some (some (.io k)) => .ok (.io k) st
  | some (some (.fl j f)) => .ok (.fl j f) st
  | some (some .exc) => .ok .exc st
  | _ => .stuck
theorem sE_var {i : Nat} : SimE K cl E (tVar i) (mVar i) := by
  intro W σ H st I Q q
  unfold mVar at q
  split at q
  · rename_i d e
    obtain ⟨v, hv, r⟩ := I.slots i _ e
    exact ⟨v, hv, q.now I v r⟩
  · rename_i b e
    obtain ⟨p, hv, r⟩ := I.slots i _ e
    exact ⟨_, hv, q.now I _ hv⟩
  · rename_i k e
    obtain ⟨p, hv, r⟩ := I.slots i _ e
    exact ⟨_, hv, q.now I _ ⟨p, rfl, r⟩⟩
  · rename_i j f e
    obtain ⟨p, hv, r⟩ := I.slots i _ e
    exact ⟨_, hv, q.now I _ ⟨p, rfl, r⟩⟩
  · rename_i e
    exact ⟨_, I.slots i _ e, q.now I _ rfl⟩
  · exact q.elim
/-- an operation on two plain values -/
def onS (f : D → D → Option D) : EV → EV → M EV
  | .dat x, .dat y => fun st => match f x y with
    | some d => .ok (.dat d) st
    | none => .stuck
  | _, _ => M.stuck
def mOp (f : D → D → Option D) (ma mb : M EV) : M EV := fun st => (ma st).bind fun a st1 => (mb st1).bind fun b st2 => onS f a b st2
def OpS (r : R2) (f : D → D → Option D) : Prop := ∀ x y d, f x y = some d → ∃ vx vy vd, scV x = some vx ∧ scV y = some vy ∧ scV d = some vd ∧ ∀ H (Q : VK), Q vd H → r vx vy H Q
theorem sE_op {r : R2} {f : D → D → Option D} (hr : OpS r f) (ha : SimE K cl E ta ma) (hb : SimE K cl E tb mb) : SimE K cl E (tOp r ta tb) (mOp f ma mb) := by
  intro W σ H st I Q q
  refine ha W σ H st I _ (Res.imp (Res.bind q) fun a st1 W1 H1 _ I1 x1 q1 va ka => ?_)
  refine hb W1 σ H1 st1 I1 _ (Res.imp (Res.bind q1) fun b st2 W2 H2 _ I2 x2 q2 vb kb => ?_)
  replace ka := ka.ext x2
  cases a with
  | dat x =>
    cases b with
    | dat y =>
      unfold onS at q2
      dsimp only at q2
      split at q2
      · rename_i d e
        obtain ⟨vx, vy, vd, ex, ey, ed, k⟩ := hr x y d e
        rw [scV_rep ex ka, scV_rep ey kb]
        exact k H2 Q (q2.now I2 _ (scV_mk ed))
      · exact q2.elim
    | _ => exact q2.elim
  | _ => exact q2.elim

/-! ### the heap grows, or one owner's thing changes -/
theorem FvOk.kp {W W' : Wd} {H H' : Hp} {j : Nat} {f : Str} {v : V} {x : FV} (sF : Same W.F W'.F) (rr : W.ρ <+: W'.ρ) (hp : ∀ p, W.ow p = some (.fd j f) → H' p = H p ∧ W'.ow p = some (.fd j f)) (h : FvOk K W H j f v x) : FvOk K W' H' j f v x := by
  cases x with
  | dat d => exact Rep.mono sF rr h
  | bx b => obtain ⟨p, e, o, k⟩ := h; exact ⟨p, e, (hp p o).2, k.kp sF rr (hp p o).1⟩
theorem FsOk.kp {W W' : Wd} {H H' : Hp} {j : Nat} (sF : Same W.F W'.F) (rr : W.ρ <+: W'.ρ) (hp : ∀ p f, W.ow p = some (.fd j f) → H' p = H p ∧ W'.ow p = some (.fd j f)) : ∀ {vs : List (Str × V)} {fs : List (Str × FV)}, FsOk K W H j vs fs → FsOk K W' H' j vs fs
  | _, _, .nil => .nil
  | _, _, .cons h t => .cons (h.kp sF rr fun p => hp p _) (t.kp sF rr hp)
theorem ObOk.kp {W W' : Wd} {H H' : Hp} {j : Nat} {o : Ob} (sF : Same W.F W'.F) (rr : W.ρ <+: W'.ρ) (hp : ∀ p t, W.ow p = some t → (t = .ob j ∨ t = .dx j ∨ ∃ f, t = .fd j f) → H' p = H p ∧ W'.ow p = some t) (h : ObOk K cl W H j o) : ObOk K cl W' H' j o := by
  have hr : ∀ {a : Addr}, W.ρ[j]? = some a → W'.ρ[j]? = some a := fun {a} h => by
    obtain ⟨t, e⟩ := rr
    rw [← e, List.getElem?_append_left (List.getElem?_eq_some_iff.mp h).1]
    exact h
  cases o with
  | ins c fs =>
    obtain ⟨a, dx, vs, e1, e2, e3, e4, e5, k⟩ := h
    exact ⟨a, dx, vs, hr e1, (hp a _ e2 (.inl rfl)).2, (hp dx _ e3 (.inr (.inl rfl))).2, ((hp dx _ e3 (.inr (.inl rfl))).1).trans e4, ((hp a _ e2 (.inl rfl)).1).trans e5, k.kp sF rr fun p f o => hp p _ o (.inr (.inr ⟨f, rfl⟩))⟩
  | bx b =>
    obtain ⟨a, e1, e2, k⟩ := h
    exact ⟨a, hr e1, (hp a _ e2 (.inl rfl)).2, k.kp sF rr (hp a _ e2 (.inl rfl)).1⟩
theorem SlOk.kp {W W' : Wd} {H H' : Hp} {i : Nat} {sv : SV} (sF : Same W.F W'.F) (rr : W.ρ <+: W'.ρ) (h1 : ∀ p t, W.ow p = some t → (∀ i, t ≠ .sl i) → W'.ow p = some t) (hp : ∀ p, W.ow p = some (.sl i) → H' p = H p ∧ W'.ow p = some (.sl i)) (h : SlOk K W σ H i sv) (hx : W'.xa = W.xa := by rfl) : SlOk K W' σ H' i sv := by
  cases sv with
  | dat d => obtain ⟨v, e, r⟩ := h; exact ⟨v, e, r.mono sF rr⟩
  | own b => obtain ⟨p, e, o, k⟩ := h; exact ⟨p, e, (hp p o).2, k.kp sF rr (hp p o).1⟩
  | io k => obtain ⟨p, e, o⟩ := h; exact ⟨p, e, h1 p _ o (fun i => by simp)⟩
  | fl j f => obtain ⟨p, e, o⟩ := h; exact ⟨p, e, h1 p _ o (fun i => by simp)⟩
  | exc => exact h.trans (by rw [hx])
/-- nothing that has an owner changes -/
theorem Inv.grow {st : St} {F' H' : Hp} (I : Inv K cl W σ H st) (sF : Same W.F F') (sub : Same F' H') (sH : Same H H') (out : ∀ p t, W.ow p = some t → F' p = none) : Inv K cl { W with F := F' } σ H' st := by
  have hp : ∀ p t, W.ow p = some t → H' p = H p := fun p t h => by
    obtain ⟨_, o, e⟩ := I.out p t h
    rw [e]
    exact sH p o e
  refine ⟨I.xeq, I.nt, sub, fun p t h => ⟨out p t h, ?_⟩, I.inj, I.len, fun i sv e => (I.slots i sv e).kp sF (List.prefix_refl _) (fun p t h _ => h) fun p h => ⟨hp p _ h, h⟩, fun k b e => ?_, I.rlen, fun j o e => (I.obs j o e).kp sF (List.prefix_refl _) fun p t h _ => ⟨hp p t h, h⟩⟩
  · obtain ⟨_, o, e⟩ := I.out p t h
    exact ⟨o, sH p o e⟩
  · obtain ⟨p, o, k2⟩ := I.ios k b e
    exact ⟨p, o, k2.kp sF (List.prefix_refl _) (hp p _ o)⟩
theorem Ext.grow {F' H' : Hp} (sF : Same W.F F') (sH : Same H H') (fz : ∀ p o, H p = some o → W.ow p = none → W.F p = none → F' p = none) : Ext W H { W with F := F' } H' :=
  ⟨sF, List.prefix_refl _, fun _ _ h _ => h, fun p o h _ => sH p o h, fun _ h => h, fun _ _ _ h => h, fun p h => sH.free h, fz, rfl⟩
theorem Inv.free {st : St} (I : Inv K cl W σ H st) {p : Addr} (h : H p = none) : W.ow p = none ∧ W.F p = none := by
  refine ⟨?_, I.sub.free h⟩
  cases e : W.ow p with
  | none => rfl
  | some t =>
    obtain ⟨_, o, e2⟩ := I.out p t e
    rw [h] at e2
    cases e2
/-- a new thing, known for good -/
theorem Inv.new {st : St} (I : Inv K cl W σ H st) {p : Addr} {o : HO} (h : H p = none) : Inv K cl { W with F := upd W.F p o } σ (upd H p o) st := by
  obtain ⟨z1, z2⟩ := I.free h
  refine I.grow (Kv.same_upd z2) (fun q u e => ?_) (Kv.same_upd h) fun q t e => ?_
  · by_cases c : q = p
    · subst c; rw [upd_same] at e ⊢; exact e
    · rw [upd_ne c] at e ⊢; exact I.sub q u e
  · have c : q ≠ p := fun c => by subst c; rw [z1] at e; cases e
    rw [upd_ne c]
    exact (I.out q t e).1
theorem Ext.new {st : St} (I : Inv K cl W σ H st) {p : Addr} {o : HO} (h : H p = none) : Ext W H { W with F := upd W.F p o } (upd H p o) := Ext.grow (Kv.same_upd (I.free h).2) (Kv.same_upd h) fun q u e _ f => by rw [upd_ne (ne_of_none e h)]; exact f
/-- a new thing, not known -/
theorem Inv.new0 {st : St} (I : Inv K cl W σ H st) {p : Addr} {o : HO} (h : H p = none) : Inv K cl W σ (upd H p o) st := by
  exact I.grow (H' := upd H p o) (Same.refl _) (fun q u e => Kv.same_upd h q u (I.sub q u e)) (Kv.same_upd h) fun q t e => (I.out q t e).1
theorem Ext.new0 {p : Addr} {o : HO} (h : H p = none) : Ext W H W (upd H p o) := Ext.grow (Same.refl _) (Kv.same_upd h) fun _ _ _ _ f => f
/-- what is new and nobody's becomes known -/
theorem Inv.know {st : St} (I : Inv K cl W σ H st) {p : Addr} {o : HO} (h : H p = some o) (z1 : W.ow p = none) (z2 : W.F p = none) : Inv K cl { W with F := upd W.F p o } σ H st := by
  refine I.grow (Kv.same_upd z2) (fun q u e => ?_) (Same.refl _) fun q t e => ?_
  · by_cases c : q = p
    · subst c; rw [upd_same] at e; rw [← e]; exact h
    · rw [upd_ne c] at e; exact I.sub q u e
  · have c : q ≠ p := fun c => by subst c; rw [z1] at e; cases e
    rw [upd_ne c]
    exact (I.out q t e).1
theorem Ext.know {W1 : Wd} {H1 : Hp} {p : Addr} {o : HO} (x : Ext W H W1 H1) (n : H p = none) (z2 : W1.F p = none) : Ext W H { W1 with F := upd W1.F p o } H1 :=
  ⟨x.sF.trans (Kv.same_upd z2), x.rr, x.ow, x.un, x.xt, x.nw, x.lv, fun q u e h f => by
    show upd W1.F p o q = none
    rw [upd_ne (ne_of_none e n)]; exact x.fz q u e h f, x.xa⟩
/-- a new list as plain data -/
def mFrz (mn : M BX) : M EV := fun st => (mn st).bind fun b st1 => match b with
    | .lst ds => .ok (.dat (.lst ds)) st1
    | _ => .stuck
theorem sE_frz {te : TE} {mn : M BX} (h : SimN K cl E te mn) : SimE K cl E te (mFrz mn) := by
  intro W σ H st I Q q
  unfold mFrz at q
  refine h W σ H st I _ (Res.imp (Res.bind q) fun b st1 W1 H1 hm1 I1 x1 q1 p np z1 z2 k => ?_)
  rw [hm1] at q
  cases b with
  | dct _ => exact q1.elim
  | fz _ => exact q1.elim
  | lst ds =>
    obtain ⟨vs, e, r⟩ := k
    exact q _ _ (I1.know e z2 z1) (x1.know np z1) _ (.lst (SqL.of upd_same) (r.mono (Kv.same_upd z1) (List.prefix_refl _)))
/-- as plain data: an own list is given up -/
def kill (env : List (Option SV)) (i : Nat) (ds : List D) : List (Option SV) := env.set i (some (.dat (.lst ds)))
def toD : EV → M D
  | .dat d => M.pure d
  | .sl i => fun st => match st.env[i]? with
    | some (some (.dat d)) => .ok d st
    | some (some (.own (.lst ds))) => .ok (.lst ds) { st with env := st.env.set i (some (.dat (.lst ds))) }
    | _ => .stuck
  | _ => M.stuck

theorem sub_upd {F : Hp} {p : Addr} {o : HO} (s : Same F H) (z : F p = none) : Same F (upd H p o) := fun q u e => by
  by_cases c : q = p
  · subst c; rw [z] at e; cases e
  · rw [upd_ne c]; exact s q u e
theorem out_upd {st : St} {p : Addr} {o : HO} (I : Inv K cl W σ H st) : ∀ q t, W.ow q = some t → W.F q = none ∧ ∃ u, upd H p o q = some u := fun q t e => by
  refine ⟨(I.out q t e).1, ?_⟩
  by_cases c : q = p
  · subst c; exact ⟨o, upd_same⟩
  · rw [upd_ne c]; exact (I.out q t e).2
theorem Ext.mut {t : Tag} {p : Addr} {o : HO} (h : W.ow p = some t) (n : t ≠ .xt) (hf : ∀ u, H p = some u → ¬ IsFz u) : Ext W H W (upd H p o) := by
  refine ⟨Same.refl _, List.prefix_refl _, fun _ _ h _ => h, fun q u e z => ?_, fun _ h => h, fun _ _ _ h => h, fun q h => ?_, fun _ _ _ _ f => f, rfl⟩
  rotate_left
  · by_cases c : q = p
    · subst c; rw [upd_same] at h; cases h
    · rw [upd_ne c] at h; exact h
  have c : q ≠ p := fun c => by
    subst c
    rcases z with z | z | z
    · rw [h] at z; cases z
    · rw [h] at z; cases z; exact n rfl
    · exact hf u e z
  rw [upd_ne c]
  exact e
theorem nofz {H : Hp} {p : Addr} {o : HO} (h : H p = some o) (n : ¬ IsFz o) : ∀ u, H p = some u → ¬ IsFz u := fun u e => by rw [h] at e; cases e; exact n
theorem nofz_lst {xs : List V} : ¬ IsFz (.lst xs) := fun ⟨_, _, e⟩ => by cases e
theorem nofz_dK {xs : List (Key × V)} : ¬ IsFz (.dK xs) := fun ⟨_, _, e⟩ => by cases e
theorem nofz_ins {c a : Addr} {xs : List (Str × V)} : ¬ IsFz (.ins c a xs) := fun ⟨_, _, e⟩ => by cases e
theorem get_set_ne {α : Type} {l : List α} {i j : Nat} {x : α} (h : i ≠ j) : (l.set i x)[j]? = l[j]? := List.getElem?_set_ne h
theorem get_set_eq {α : Type} {l : List α} {i : Nat} {x y z : α} (e : l[i]? = some z) (h : (l.set i x)[i]? = some y) : y = x := by
  have := (List.getElem?_eq_some_iff.mp e).1
  rw [List.getElem?_set_self this] at h
  exact (Option.some.inj h).symm
/-- a slot's own thing changes -/
theorem Inv.mutSl {st : St} {i : Nat} {b b' : BX} {p : Addr} {o : HO} (I : Inv K cl W σ H st) (e : st.env[i]? = some (some (.own b))) (hs : σ[i]? = some (some (.ref p))) (ho : W.ow p = some (.sl i)) (k : BxOk K W (upd H p o) p b') :
    Inv K cl W σ (upd H p o) { st with env := st.env.set i (some (.own b')) } := by
  have hne : ∀ q t, W.ow q = some t → t ≠ .sl i → upd H p o q = H q := fun q t e n => by
    have c : q ≠ p := fun c => by subst c; rw [ho] at e; cases e; exact n rfl
    exact upd_ne c
  refine ⟨I.xeq, I.nt, sub_upd I.sub (I.out p _ ho).1, out_upd I, I.inj, by simp [I.len], fun j sv ej => ?_, fun k b e => ?_, I.rlen, fun j o e => ?_⟩
  · by_cases c : i = j
    · subst c
      have := get_set_eq e ej
      cases this
      exact ⟨p, hs, ho, k⟩
    · rw [get_set_ne c] at ej
      exact (I.slots j sv ej).kp (Same.refl _) (List.prefix_refl _) (fun _ _ h _ => h) fun q h => ⟨hne q _ h (fun z => c (by cases z; rfl)), h⟩
  · obtain ⟨q, h, k2⟩ := I.ios k b e
    exact ⟨q, h, k2.kp (Same.refl _) (List.prefix_refl _) (hne q _ h (by simp))⟩
  · exact (I.obs j o e).kp (Same.refl _) (List.prefix_refl _) fun q t h z => ⟨hne q t h (by rcases z with z | z | ⟨f, z⟩ <;> simp [z]), h⟩
/-- a parameter's thing changes -/
theorem Inv.mutIo {st : St} {i : Nat} {b b' : BX} {p : Addr} {o : HO} (I : Inv K cl W σ H st) (e : st.io[i]? = some b) (ho : W.ow p = some (.io i)) (k : BxOk K W (upd H p o) p b') :
    Inv K cl W σ (upd H p o) { st with io := st.io.set i b' } := by
  have hne : ∀ q t, W.ow q = some t → t ≠ .io i → upd H p o q = H q := fun q t e n => by
    have c : q ≠ p := fun c => by subst c; rw [ho] at e; cases e; exact n rfl
    exact upd_ne c
  refine ⟨I.xeq, I.nt, sub_upd I.sub (I.out p _ ho).1, out_upd I, I.inj, I.len, fun j sv ej => ?_, fun j b ej => ?_, I.rlen, fun j o e => ?_⟩
  · exact (I.slots j sv ej).kp (Same.refl _) (List.prefix_refl _) (fun _ _ h _ => h) fun q h => ⟨hne q _ h (by simp), h⟩
  · by_cases c : i = j
    · subst c
      have := get_set_eq e ej
      subst this
      exact ⟨p, ho, k⟩
    · have ej : (st.io.set i b')[j]? = some b := ej
      rw [get_set_ne c] at ej
      obtain ⟨q, h, k2⟩ := I.ios j b ej
      exact ⟨q, h, k2.kp (Same.refl _) (List.prefix_refl _) (hne q _ h (fun z => c (by cases z; rfl)))⟩
  · exact (I.obs j o e).kp (Same.refl _) (List.prefix_refl _) fun q t h z => ⟨hne q t h (by rcases z with z | z | ⟨f, z⟩ <;> simp [z]), h⟩
/-- an own list is given up: from now on it is known -/
theorem Inv.frz {st : St} {i : Nat} {ds : List D} (I : Inv K cl W σ H st) (e : st.env[i]? = some (some (.own (.lst ds)))) : ∃ W' p, σ[i]? = some (some (.ref p)) ∧ Inv K cl W' σ H { st with env := st.env.set i (some (.dat (.lst ds))) } ∧ Ext W H W' H ∧ Rep K W'.F W'.ρ (.ref p) (.lst ds) := by
  obtain ⟨p, hs, ho, vs, hp, r⟩ := I.slots i _ e
  have z := (I.out p _ ho).1
  have sF : Same W.F (upd W.F p (.lst vs)) := Kv.same_upd z
  have hne : ∀ q t, W.ow q = some t → t ≠ .sl i → q ≠ p := fun q t e n c => by subst c; rw [ho] at e; cases e; exact n rfl
  have how : ∀ q t, W.ow q = some t → t ≠ .sl i → (if q = p then none else W.ow q) = some t := fun q t e n => by rw [if_neg (hne q t e n)]; exact e
  have rp : Rep K (upd W.F p (.lst vs)) W.ρ (.ref p) (.lst ds) := .lst (SqL.of upd_same) (r.mono sF (List.prefix_refl _))
  refine ⟨⟨upd W.F p (.lst vs), W.ρ, fun q => if q = p then none else W.ow q, W.xa⟩, p, hs, ⟨I.xeq, fun z q k e => ?_, fun q u e => ?_, fun q t e => ?_, fun q q' t e e' n => ?_, by simp [I.len], fun j sv ej => ?_, fun k b e => ?_, I.rlen, fun j o e => ?_⟩, ⟨sF, List.prefix_refl _, fun q t e n => how q t e (n i), fun q o e _ => e, fun q e => ?_, fun q o h e => ?_, fun _ h => h, fun q o h e f => ?_, rfl⟩, rp⟩
  · dsimp only at e
    split at e
    · cases e
    · exact I.nt z q k e
  · have e : upd W.F p (.lst vs) q = some u := e
    by_cases c : q = p
    · subst c; rw [upd_same] at e; rw [← e]; exact hp
    · rw [upd_ne c] at e; exact I.sub q u e
  · dsimp only at e ⊢
    split at e
    · cases e
    · rename_i c
      rw [upd_ne c]
      exact I.out q t e
  · dsimp only at e e'
    split at e
    · cases e
    split at e'
    · cases e'
    exact I.inj q q' t e e' n
  · by_cases c : i = j
    · subst c
      have := get_set_eq e ej
      cases this
      exact ⟨.ref p, hs, rp⟩
    · have ej : (st.env.set i (some (.dat (.lst ds))))[j]? = some (some sv) := ej
      rw [get_set_ne c] at ej
      exact (I.slots j sv ej).kp sF (List.prefix_refl _) (fun q t h n => how q t h (n i)) fun q h => ⟨rfl, how q _ h (fun z => c (by cases z; rfl))⟩
  · obtain ⟨q, h, k2⟩ := I.ios k b e
    exact ⟨q, how q _ h (by simp), k2.kp sF (List.prefix_refl _) rfl⟩
  · exact (I.obs j o e).kp sF (List.prefix_refl _) fun q t h z => ⟨rfl, how q t h (by rcases z with z | z | ⟨f, z⟩ <;> simp [z])⟩
  · dsimp only at e
    split at e
    · cases e
    · exact e
  · dsimp only
    split
    · rfl
    · exact e
  · have c : q ≠ p := fun c => by subst c; rw [ho] at e; cases e
    show upd W.F p _ q = none
    rw [upd_ne c]; exact f
theorem toD_ok {st : St} {v : V} {ev : EV} {Q : D → St → Wd → Hp → Prop} (I : Inv K cl W σ H st) (k : EvOk K W H σ v ev) (q : Res K cl E W σ H (toD ev st) Q) : ∃ d st' W', Inv K cl W' σ H st' ∧ Ext W H W' H ∧ Rep K W'.F W'.ρ v d ∧ Q d st' W' H := by
  cases ev with
  | dat d => exact ⟨d, st, W, I, Ext.refl W H, k, q.now I⟩
  | sl i =>
    unfold toD at q
    dsimp only at q
    split at q
    · rename_i d e
      obtain ⟨v', hv, r⟩ := I.slots i _ e
      have k : σ[i]? = some (some v) := k
      rw [k] at hv
      cases hv
      exact ⟨d, st, W, I, Ext.refl W H, r, q.now I⟩
    · rename_i ds e
      obtain ⟨W', p, hs, I', x', r⟩ := I.frz e
      have k : σ[i]? = some (some v) := k
      rw [k] at hs
      cases hs
      exact ⟨_, _, W', I', x', r, q W' H I' x'⟩
    · exact q.elim
  | io k => exact q.elim
  | fl j f => exact q.elim
  | exc => exact q.elim
  | tp b => exact q.elim
def mD (me : M EV) : M EV := fun st => (me st).bind fun ev st1 => (toD ev st1).bind fun d st2 => .ok (.dat d) st2
theorem sE_d {te : TE} {me : M EV} (h : SimE K cl E te me) : SimE K cl E te (mD me) := by
  intro W σ H st I Q q
  refine h W σ H st I _ (Res.imp (Res.bind q) fun ev st1 W1 H1 _ I1 x1 q1 v k => ?_)
  obtain ⟨d, st2, W2, I2, x2, r, q2⟩ := toD_ok I1 k (Res.bind q1)
  exact q2.now I2 v r
theorem sA_nil : SimA K cl E tNil (M.pure []) := fun W σ H st I Q q => q.now I [] .nil .nil
def notTp : EV → Bool
  | .tp _ => false
  | _ => true
def mCons (me : M EV) (ma : M (List EV)) : M (List EV) := fun st => (me st).bind fun ev st1 => if notTp ev = true then (ma st1).bind fun evs st2 => .ok (ev :: evs) st2 else .stuck
theorem sA_cons {te : TE} {me : M EV} {ta : TA} {ma : M (List EV)} (h : SimE K cl E te me) (hr : SimA K cl E ta ma) : SimA K cl E (tCons te ta) (mCons me ma) := by
  intro W σ H st I Q q
  refine h W σ H st I _ (Res.imp (Res.bind q) fun ev st1 W1 H1 _ I1 x1 q1 v k => ?_)
  split at q1
  rotate_left
  · exact q1.elim
  rename_i n
  refine hr W1 σ H1 st1 I1 _ (Res.imp (Res.bind q1) fun evs st2 W2 H2 _ I2 x2 q2 vs ks fs => ?_)
  exact q2.now I2 _ (.cons (k.ext x2) ks) (.cons (fun b e => by subst e; cases n) (fs.lv x1.lv))
/-- a new list as an argument -/
def mConsN (mn : M BX) (ma : M (List EV)) : M (List EV) := fun st => (mn st).bind fun b st1 => (ma st1).bind fun evs st2 => .ok (.tp b :: evs) st2
theorem sA_consN {te : TE} {mn : M BX} {ta : TA} {ma : M (List EV)} (h : SimN K cl E te mn) (hr : SimA K cl E ta ma) : SimA K cl E (tCons te ta) (mConsN mn ma) := by
  intro W σ H st I Q q
  refine h W σ H st I _ (Res.imp (Res.bind q) fun b st1 W1 H1 _ I1 x1 q1 p hp z1 z2 k => ?_)
  refine hr W1 σ H1 st1 I1 _ (Res.imp (Res.bind q1) fun evs st2 W2 H2 _ I2 x2 q2 vs ks fs => ?_)
  have kv : EvOk K W1 H1 σ (.ref p) (.tp b) := ⟨p, rfl, z1, z2, k⟩
  have live : H1 p ≠ none := by
    cases b with
    | lst ds => obtain ⟨vs, e, _⟩ := k; rw [e]; simp
    | dct ds => obtain ⟨vs, e, _⟩ := k; rw [e]; simp
    | fz ds => obtain ⟨_, vs, e, _⟩ := k; rw [e]; simp
  refine q2.now I2 _ (.cons (kv.ext x2) ks) (.cons (fun b' e => ⟨p, rfl, hp, fun i b'' e1 e2 => ?_⟩) (fs.lv x1.lv))
  obtain ⟨p', e3, e4⟩ := fs.get e1
  rw [e3] at e2
  cases e2
  exact live e4
/-- plain data alone -/
def dats : List EV → Option (List D)
  | [] => some []
  | .dat d :: r => (dats r).map (d :: ·)
  | _ => none
theorem dats_ok : ∀ {evs : List EV} {vs : List V} {ds : List D}, EvsOk K W H σ vs evs → dats evs = some ds → RepL K W.F W.ρ vs ds
  | [], _, _, .nil, h => by cases h; exact .nil
  | .dat d :: r, _, _, .cons k t, h => by
    unfold dats at h
    cases e : dats r with
    | none => rw [e] at h; cases h
    | some ds => rw [e] at h; cases h; exact .cons k (dats_ok t e)
  | .sl _ :: _, _, _, .cons _ _, h => by cases h
  | .io _ :: _, _, _, .cons _ _, h => by cases h
  | .fl _ _ :: _, _, _, .cons _ _, h => by cases h
  | .exc :: _, _, _, .cons _ _, h => by cases h
  | .tp _ :: _, _, _, .cons _ _, h => by cases h
def mTup (ma : M (List EV)) : M EV := fun st => (ma st).bind fun evs st1 => match dats evs with
  | some ds => if ds.length ≤ sizeLine then .ok (.dat (.tup ds)) st1 else .stuck
  | none => .stuck
theorem sE_tup {ta : TA} {ma : M (List EV)} (h : SimA K cl E ta ma) : SimE K cl E (tTup ta) (mTup ma) := by
  intro W σ H st I Q q
  refine h W σ H st I _ (Res.imp (Res.bind q) fun evs st1 W1 H1 _ I1 x1 q1 vs ks _ => ?_)
  split at q1
  · rename_i ds e
    have r := dats_ok ks e
    split at q1
    · rename_i hl
      refine ⟨by rw [r.len]; exact hl, fun p hp => ?_⟩
      exact q1 _ _ (I1.new hp) (Ext.new I1 hp) _ (.tup (SqT.of upd_same) (r.mono (Kv.same_upd (I1.free hp).2) (List.prefix_refl _)))
    · exact q1.elim
  · exact q1.elim
def mLst (ma : M (List EV)) : M BX := fun st => (ma st).bind fun evs st1 => match dats evs with
  | some ds => if ds.length ≤ sizeLine then .ok (.lst ds) st1 else .stuck
  | none => .stuck
theorem sN_lst {ta : TA} {ma : M (List EV)} (h : SimA K cl E ta ma) : SimN K cl E (tLst ta) (mLst ma) := by
  intro W σ H st I Q q
  refine h W σ H st I _ (Res.imp (Res.bind q) fun evs st1 W1 H1 _ I1 x1 q1 vs ks _ => ?_)
  split at q1
  · rename_i ds e
    have r := dats_ok ks e
    split at q1
    · rename_i hl
      refine ⟨by rw [r.len]; exact hl, fun p hp => ?_⟩
      obtain ⟨z1, z2⟩ := I1.free hp
      exact q1 _ _ (I1.new0 hp) (Ext.new0 hp) p (x1.lv p hp) z2 z1 ⟨vs, upd_same, r⟩
    · exact q1.elim
  · exact q1.elim
end
end
end Mi

set_option Elab.async false
set_option linter.all false
set_option maxRecDepth 100000
set_option maxHeartbeats 4000000
namespace Mi
open PySem PySem.Spec PyProof.Rows L2
section
variable {K : Frag} {cl : (Str → Addr) × Addr × Bool} {E : Kv.Er → L2.St → Hp → Prop} {W : Wd} {σ : L2.St} {H : Hp} {ta tb tc : TE} {ma mb mc : M EV}
/-! ### what a value holds now -/
def peek (st : St) : EV → Option D
  | .dat (.ob j) => match st.S[j]? with
    | some (.bx (.lst ds)) => some (.lst ds)
    | _ => some (.ob j)
  | .dat d => some d
  | .sl i => match st.env[i]? with
    | some (some (.own (.lst ds))) => some (.lst ds)
    | some (some (.dat (.lst ds))) => some (.lst ds)
    | _ => none
  | .io k => match st.io[k]? with
    | some (.lst ds) => some (.lst ds)
    | _ => none
  | .fl j f => match st.S[j]? with
    | some (.ins _ fs) => match fs.lookup f with
      | some (.bx (.lst ds)) => some (.lst ds)
      | _ => none
    | _ => none
  | .exc => none
  | .tp (.lst ds) => some (.lst ds)
  | .tp _ => none
def PkOk (K : Frag) (W : Wd) (H : Hp) (v : V) : D → Prop
  | .lst ds => ∃ a vs, v = .ref a ∧ SqL K H a vs ∧ RepL K W.F W.ρ vs ds
  | d => Rep K W.F W.ρ v d
theorem PkOk.of {v : V} {d : D} (s : Same W.F H) (r : Rep K W.F W.ρ v d) : PkOk K W H v d := by
  cases r with
  | lst h l => exact ⟨_, _, rfl, s.seq h, l⟩
  | non => exact .non
  | bl b => exact .bl b
  | int b => exact .int b
  | str b => exact .str b
  | ty b => exact .ty b
  | tup h l => exact .tup h l
  | ob h => exact .ob h
theorem PkOk.rep {v : V} {d : D} (s : Same W.F H) (h : PkOk K W H v d) : Rep K H W.ρ v d := by
  cases d with
  | lst ds => obtain ⟨a, vs, rfl, q, r⟩ := h; exact .lst q (r.mono s (List.prefix_refl _))
  | _ => exact Rep.mono s (List.prefix_refl _) h
theorem fs_get {j : Nat} {f : Str} {x : FV} : ∀ {vs : List (Str × V)} {fs : List (Str × FV)}, FsOk K W H j vs fs → fs.lookup f = some x → ∃ v, vs.lookup f = some v ∧ FvOk K W H j f v x
  | _, _, .nil, e => by cases e
  | _, _, .cons (f := g) h t, e => by
    rw [List.lookup_cons] at e ⊢
    cases c : f == g with
    | true =>
      rw [c] at e
      cases e
      rw [show f = g from eq_of_beq c]
      exact ⟨_, rfl, h⟩
    | false => rw [c] at e; exact fs_get t e
theorem peek_ok {st : St} {v : V} {ev : EV} {d : D} (I : Inv K cl W σ H st) (k : EvOk K W H σ v ev) (e : peek st ev = some d) : PkOk K W H v d := by
  cases ev with
  | dat x =>
    have k : Rep K W.F W.ρ v x := k
    cases x with
    | ob j =>
      unfold peek at e
      dsimp only at e
      split at e
      · rename_i ds es
        cases e
        obtain ⟨a, e1, e2, vs, e3, r⟩ := I.obs j _ es
        cases k with
        | ob h =>
          rw [h] at e1
          cases e1
          exact ⟨_, vs, rfl, SqL.of e3, r⟩
      · cases e
        exact k
    | _ => cases e; exact PkOk.of I.sub k
  | sl i =>
    unfold peek at e
    dsimp only at e
    have k : σ[i]? = some (some v) := k
    split at e
    · rename_i ds es
      cases e
      obtain ⟨p, h1, h2, vs, h3, r⟩ := I.slots i _ es
      rw [k] at h1
      cases h1
      exact ⟨_, vs, rfl, SqL.of h3, r⟩
    · rename_i ds es
      cases e
      obtain ⟨v', h1, r⟩ := I.slots i _ es
      rw [k] at h1
      cases h1
      exact PkOk.of I.sub r
    · cases e
  | io i =>
    unfold peek at e
    dsimp only at e
    obtain ⟨p, rfl, o⟩ := k
    split at e
    · rename_i ds es
      cases e
      obtain ⟨q, h2, vs, h3, r⟩ := I.ios i _ es
      cases I.inj p q _ o h2 (by simp)
      exact ⟨_, vs, rfl, SqL.of h3, r⟩
    · cases e
  | fl j f =>
    unfold peek at e
    dsimp only at e
    obtain ⟨p, rfl, o⟩ := k
    split at e
    · rename_i c fs es
      split at e
      · rename_i ds ef
        cases e
        obtain ⟨a, dx, vs, _, _, _, _, _, hf⟩ := I.obs j _ es
        obtain ⟨v, _, q, _, h2, us, h3, r⟩ := fs_get hf ef
        cases I.inj p q _ o h2 (by simp)
        exact ⟨_, us, rfl, SqL.of h3, r⟩
      · cases e
    · cases e
  | exc => cases e
  | tp b =>
    cases b with
    | dct _ => cases e
    | fz _ => cases e
    | lst ds =>
      cases e
      obtain ⟨p, rfl, _, _, vs, h3, r⟩ := k
      exact ⟨_, vs, rfl, SqL.of h3, r⟩
/-! ### operations that change nothing -/
def PkOp (K : Frag) (r : R2) (f : D → D → Option D) : Prop := ∀ (W : Wd) (H : Hp) (vx vy : V) (x y d : D), Same W.F H → PkOk K W H vx x → PkOk K W H vy y → f x y = some d → ∃ v, Rep K W.F W.ρ v d ∧ ∀ Q : VK, Q v H → r vx vy H Q
def mPk (f : D → D → Option D) (ma mb : M EV) : M EV := fun st => (ma st).bind fun a st1 => (mb st1).bind fun b st2 => match peek st2 a, peek st2 b with
  | some x, some y => match f x y with
    | some d => .ok (.dat d) st2
    | none => .stuck
  | _, _ => .stuck
theorem sE_pk {r : R2} {f : D → D → Option D} (hr : PkOp K r f) (ha : SimE K cl E ta ma) (hb : SimE K cl E tb mb) : SimE K cl E (tOp r ta tb) (mPk f ma mb) := by
  intro W σ H st I Q q
  refine ha W σ H st I _ (Res.imp (Res.bind q) fun a st1 W1 H1 _ I1 x1 q1 va ka => ?_)
  refine hb W1 σ H1 st1 I1 _ (Res.imp (Res.bind q1) fun b st2 W2 H2 _ I2 x2 q2 vb kb => ?_)
  replace ka := ka.ext x2
  split at q2
  · rename_i x y ex ey
    split at q2
    · rename_i d e
      obtain ⟨v, rv, k⟩ := hr W2 H2 va vb x y d I2.sub (peek_ok I2 ka ex) (peek_ok I2 kb ey) e
      exact k Q (q2.now I2 v rv)
    · exact q2.elim
  · exact q2.elim
theorem pk_sc {vx : V} {x : D} {w : V} (h : scV x = some w) (k : PkOk K W H vx x) : vx = w := by
  cases x <;> first | cases h; cases k; rfl | cases h
/-- by the plain values -/
theorem PkOp.sc {r : R2} {f : D → D → Option D} (h : ∀ x y d, f x y = some d → ∃ vx vy vd, scV x = some vx ∧ scV y = some vy ∧ scV d = some vd ∧ ∀ (H : Hp) (Q : VK), Q vd H → r vx vy H Q) : PkOp K r f := by
  intro W H vx vy x y d s kx ky e
  obtain ⟨wx, wy, wd, ex, ey, ed, k⟩ := h x y d e
  exact ⟨wd, scV_mk ed, fun Q q => by rw [pk_sc ex kx, pk_sc ey ky]; exact k H Q q⟩
open Classical in
noncomputable def iOp (C : Int → Int → Prop) (g : Int → Int → D) : D → D → Option D
  | .int i, .int j => if C i j then some (g i j) else none
  | _, _ => none
theorem iOp_of {C : Int → Int → Prop} {g : Int → Int → D} {x y d : D} (e : iOp C g x y = some d) : ∃ i j, x = .int i ∧ y = .int j ∧ C i j ∧ d = g i j := by
  unfold iOp at e
  split at e
  · rename_i i j
    split at e
    · cases e; exact ⟨i, j, rfl, rfl, ‹_›, rfl⟩
    · cases e
  · cases e
theorem pk_rI {C : Int → Int → Prop} {g : Int → Int → D} {g' : Int → Int → V} (h : ∀ i j, scV (g i j) = some (g' i j)) : PkOp K (rI C g') (iOp C g) := PkOp.sc fun x y d e => by
  obtain ⟨i, j, rfl, rfl, c, rfl⟩ := iOp_of e
  exact ⟨_, _, _, rfl, rfl, h i j, fun H Q q => ⟨i, j, rfl, rfl, c, q⟩⟩
theorem pk_rI0 {g : Int → Int → D} {g' : Int → Int → V} (h : ∀ i j, scV (g i j) = some (g' i j)) : PkOp K (rI0 g') (iOp (fun _ _ => True) g) := PkOp.sc fun x y d e => by
  obtain ⟨i, j, rfl, rfl, c, rfl⟩ := iOp_of e
  exact ⟨_, _, _, rfl, rfl, h i j, fun H Q q => ⟨i, j, rfl, rfl, q⟩⟩
noncomputable abbrev fAdd := iOp (fun _ _ => True) fun i j => .int (i + j)
noncomputable abbrev fSub := iOp (fun _ _ => True) fun i j => .int (i - j)
noncomputable abbrev fMul := iOp CMulX fun i j => .int (i * j)
noncomputable abbrev fDiv := iOp CDivW fun i j => .int (i / j)
noncomputable abbrev fMod := iOp (fun _ j => 0 < j) fun i j => .int (i % j)
noncomputable abbrev fPow := iOp CPow fun i j => .int (i ^ j.toNat)
noncomputable abbrev fLt := iOp (fun _ _ => True) fun i j => .bl (decide (i < j))
noncomputable abbrev fLe := iOp (fun _ _ => True) fun i j => .bl (decide (i ≤ j))
noncomputable abbrev fGt := iOp (fun _ _ => True) fun i j => .bl (decide (j < i))
noncomputable abbrev fGe := iOp (fun _ _ => True) fun i j => .bl (decide (j ≤ i))
theorem pk_add : PkOp K (rI0 fun i j => .int (i + j)) fAdd := pk_rI0 fun _ _ => rfl
theorem pk_sub : PkOp K (rI0 fun i j => .int (i - j)) fSub := pk_rI0 fun _ _ => rfl
theorem pk_mul : PkOp K (rI CMulX fun i j => .int (i * j)) fMul := pk_rI fun _ _ => rfl
theorem pk_div : PkOp K (rI CDivW fun i j => .int (i / j)) fDiv := pk_rI fun _ _ => rfl
theorem pk_mod : PkOp K (rI (fun _ j => 0 < j) fun i j => .int (i % j)) fMod := pk_rI fun _ _ => rfl
theorem pk_pow : PkOp K (rI CPow fun i j => .int (i ^ j.toNat)) fPow := pk_rI fun _ _ => rfl
theorem pk_lt : PkOp K (rI0 fun i j => .bl (decide (i < j))) fLt := pk_rI0 fun _ _ => rfl
theorem pk_le : PkOp K (rI0 fun i j => .bl (decide (i ≤ j))) fLe := pk_rI0 fun _ _ => rfl
theorem pk_gt : PkOp K (rI0 fun i j => .bl (decide (j < i))) fGt := pk_rI0 fun _ _ => rfl
theorem pk_ge : PkOp K (rI0 fun i j => .bl (decide (j ≤ i))) fGe := pk_rI0 fun _ _ => rfl
open Classical in
noncomputable def sOp (C : Str → Str → Prop) (g : Str → Str → D) : D → D → Option D
  | .str i, .str j => if C i j then some (g i j) else none
  | _, _ => none
theorem sOp_of {C : Str → Str → Prop} {g : Str → Str → D} {x y d : D} (e : sOp C g x y = some d) : ∃ i j, x = .str i ∧ y = .str j ∧ C i j ∧ d = g i j := by
  unfold sOp at e
  split at e
  · rename_i i j
    split at e
    · cases e; exact ⟨i, j, rfl, rfl, ‹_›, rfl⟩
    · cases e
  · cases e
noncomputable abbrev fCat := sOp (fun i j => i.length + j.length ≤ sizeLine) fun i j => .str (i ++ j)
theorem pk_cat : PkOp K (fun x y H Q => ∃ i j, x = .str i ∧ y = .str j ∧ i.length + j.length ≤ sizeLine ∧ Q (.str (i ++ j)) H) fCat := PkOp.sc fun x y d e => by
  obtain ⟨i, j, rfl, rfl, c, rfl⟩ := sOp_of e
  exact ⟨_, _, _, rfl, rfl, rfl, fun H Q q => ⟨i, j, rfl, rfl, c, q⟩⟩
noncomputable abbrev fInS := sOp (fun _ _ => True) fun i j => .bl (!(Builtin.Str.occurrences j i 0 j.length 1).isEmpty)
noncomputable abbrev fNinS := sOp (fun _ _ => True) fun i j => .bl (!(!(Builtin.Str.occurrences j i 0 j.length 1).isEmpty))
theorem pk_inS : PkOp K (fun x y H Q => ∃ i j, x = .str i ∧ y = .str j ∧ Q (.bl (!(Builtin.Str.occurrences j i 0 j.length 1).isEmpty)) H) fInS := PkOp.sc fun x y d e => by
  obtain ⟨i, j, rfl, rfl, c, rfl⟩ := sOp_of e
  exact ⟨_, _, _, rfl, rfl, rfl, fun H Q q => ⟨i, j, rfl, rfl, q⟩⟩
theorem pk_ninS : PkOp K (fun x y H Q => ∃ i j, x = .str i ∧ y = .str j ∧ Q (.bl (!(!(Builtin.Str.occurrences j i 0 j.length 1).isEmpty))) H) fNinS := PkOp.sc fun x y d e => by
  obtain ⟨i, j, rfl, rfl, c, rfl⟩ := sOp_of e
  exact ⟨_, _, _, rfl, rfl, rfl, fun H Q q => ⟨i, j, rfl, rfl, q⟩⟩
def fEq (x y : D) : Option D := match scV x, scV y with
  | some a, some b => if scal a b = true then some (.bl (decide (a = b))) else none
  | _, _ => none
def fNe (x y : D) : Option D := match scV x, scV y with
  | some a, some b => if scal a b = true then some (.bl (!decide (a = b))) else none
  | _, _ => none
theorem pk_eq : PkOp K rEq fEq := PkOp.sc fun x y d e => by
  unfold fEq at e
  split at e
  · rename_i a b ea eb
    split at e
    · rename_i c
      cases e
      exact ⟨a, b, _, ea, eb, rfl, fun H Q q => ⟨c, q⟩⟩
    · cases e
  · cases e
theorem pk_ne : PkOp K rNe fNe := PkOp.sc fun x y d e => by
  unfold fNe at e
  split at e
  · rename_i a b ea eb
    split at e
    · rename_i c
      cases e
      exact ⟨a, b, _, ea, eb, rfl, fun H Q q => ⟨c, q⟩⟩
    · cases e
  · cases e

def isNon : D → Bool
  | .non => true
  | _ => false
def fIsN (x y : D) : Option D := match y with
  | .non => some (.bl (isNon x))
  | _ => none
def fNotN (x y : D) : Option D := match y with
  | .non => some (.bl (!isNon x))
  | _ => none
theorem rep_non {F : Hp} {ρ : List Addr} {v : V} {d : D} (h : Rep K F ρ v d) : decide (v = .non) = isNon d := by
  cases h <;> simp [isNon]
theorem pk_non {v : V} {d : D} (s : Same W.F H) (h : PkOk K W H v d) : decide (v = .non) = isNon d := rep_non (h.rep s)
theorem pk_isN : PkOp K (fun x y H Q => y = .non ∧ Q (.bl (decide (x = .non))) H) fIsN := by
  intro W H vx vy x y d s kx ky e
  unfold fIsN at e
  split at e
  · cases e
    refine ⟨_, .bl _, fun Q q => ⟨?_, by rw [pk_non s kx]; exact q⟩⟩
    cases ky; rfl
  · cases e
theorem pk_notN : PkOp K (fun x y H Q => y = .non ∧ Q (.bl (!decide (x = .non))) H) fNotN := by
  intro W H vx vy x y d s kx ky e
  unfold fNotN at e
  split at e
  · cases e
    refine ⟨_, .bl _, fun Q q => ⟨?_, by rw [pk_non s kx]; exact q⟩⟩
    cases ky; rfl
  · cases e
/-! ### items -/
theorem atI_rep {F : Hp} {ρ : List Addr} {vs : List V} {ds : List D} {i : Int} {d : D} (r : RepL K F ρ vs ds) (e : atI ds i = some d) : ∃ v, atI vs i = some v ∧ Rep K F ρ v d := by
  unfold atI at e ⊢
  rw [r.len]
  cases h : ixN ds.length i with
  | none => rw [h] at e; cases e
  | some j =>
    rw [h] at e
    obtain ⟨v, ev, rv⟩ := r.get e
    exact ⟨v, ev, rv⟩
def fIxL : D → D → Option D
  | .lst ds, .int i => atI ds i
  | _, _ => none
def fIxT : D → D → Option D
  | .tup ds, .int i => atI ds i
  | _, _ => none
def fIxS : D → D → Option D
  | .str z, .int i => if z.length ≤ sizeLine then (atI z.cps.toList i).map fun c => .str ⟨#[c]⟩ else none
  | _, _ => none
theorem pk_ixL : PkOp K (rIxL K) fIxL := by
  intro W H vx vy x y d s kx ky e
  unfold fIxL at e
  split at e
  · obtain ⟨a, vs, rfl, q, r⟩ := kx
    cases ky
    obtain ⟨v, ev, rv⟩ := atI_rep r e
    exact ⟨v, rv, fun Q k => ⟨a, vs, _, v, rfl, rfl, q, ev, k⟩⟩
  · cases e
theorem pk_ixT : PkOp K (rIxT K) fIxT := by
  intro W H vx vy x y d s kx ky e
  unfold fIxT at e
  split at e
  · cases kx with
    | tup h r =>
      cases ky
      obtain ⟨v, ev, rv⟩ := atI_rep r e
      exact ⟨v, rv, fun Q k => ⟨_, _, _, v, rfl, rfl, Kv.same_tup s h, ev, k⟩⟩
  · cases e
theorem pk_ixS : PkOp K rIxS fIxS := by
  intro W H vx vy x y d s kx ky e
  unfold fIxS at e
  split at e
  · rename_i z i
    cases kx
    cases ky
    split at e
    · rename_i hl
      cases h : atI z.cps.toList i with
      | none => rw [h] at e; cases e
      | some c => rw [h] at e; cases e; exact ⟨_, .str _, fun Q k => ⟨_, _, c, rfl, rfl, hl, h, k⟩⟩
    · cases e
  · cases e
/-! ### in -/
def scL : List D → Option (List V)
  | [] => some []
  | d :: r => match scV d, scL r with
    | some v, some vs => some (v :: vs)
    | _, _ => none
theorem scL_rep {F : Hp} {ρ : List Addr} : ∀ {ds : List D} {vs ws : List V}, scL ds = some ws → RepL K F ρ vs ds → vs = ws
  | [], _, _, e, .nil => by cases e; rfl
  | d :: r, _, _, e, .cons h t => by
    unfold scL at e
    split at e
    · rename_i v vs e1 e2
      cases e
      rw [scV_rep e1 h, scL_rep e2 t]
    · cases e
def fIn (neg : Bool) (x y : D) : Option D := match y with
  | .lst ds | .tup ds => match scV x, scL ds with
    | some v, some vs => if flatV v = true ∧ vs.all flatV = true then some (.bl (if neg then !inV v vs else inV v vs)) else none
    | _, _ => none
  | _ => none
theorem pk_in {neg : Bool} : PkOp K (rIn K neg) (fIn neg) := by
  intro W H vx vy x y d s kx ky e
  have main : ∀ (p : Addr) (us : List V) (ds : List D), (SqL K H p us ∨ SqT K H p us) → RepL K W.F W.ρ us ds → (match scV x, scL ds with
      | some v, some vs => if flatV v = true ∧ vs.all flatV = true then some (.bl (if neg then !inV v vs else inV v vs)) else none
      | _, _ => none) = some d → ∃ v, Rep K W.F W.ρ v d ∧ ∀ Q : VK, Q v H → rIn K neg vx (.ref p) H Q := by
    intro p us ds hq r e
    split at e
    · rename_i v vs e1 e2
      split at e
      · rename_i c
        cases e
        rw [pk_sc e1 kx, ← scL_rep e2 r]
        rw [← scL_rep e2 r] at c
        exact ⟨_, .bl _, fun Q k => ⟨p, us, rfl, hq, c.1, c.2, k⟩⟩
      · cases e
    · cases e
  unfold fIn at e
  split at e
  · obtain ⟨a, vs, rfl, q, r⟩ := ky
    exact main a vs _ (.inl q) r e
  · cases ky with
    | tup h r => exact main _ _ _ (.inr (Kv.same_tup s h)) r e
  · cases e
/-! ### == at any depth -/
mutual
def D.pd : D → Option PyData
  | .non => some .none
  | .bl b => some (.bool b)
  | .int i => some (.int i)
  | .str s => some (.str s)
  | .tup ds => (pdL ds).map .tuple
  | .lst ds => (pdL ds).map .list
  | _ => none
def pdL : List D → Option (List PyData)
  | [] => some []
  | d :: r => match d.pd, pdL r with
    | some x, some xs => some (x :: xs)
    | _, _ => none
end
mutual
theorem dp_of {F : Hp} {ρ : List Addr} : ∀ {d : D} {v : V} {x : PyData}, Rep K F ρ v d → d.pd = some x → Dp K F v x
  | .non, _, _, .non, e => by unfold D.pd at e; cases e; exact .non
  | .bl _, _, _, .bl b, e => by unfold D.pd at e; cases e; exact .bl b
  | .int _, _, _, .int b, e => by unfold D.pd at e; cases e; exact .int b
  | .str _, _, _, .str b, e => by unfold D.pd at e; cases e; exact .str b
  | .ty _, _, _, .ty b, e => by unfold D.pd at e; cases e
  | .tup ds, _, _, .tup h r, e => by
    unfold D.pd at e
    cases c : pdL ds with
    | none => rw [c] at e; cases e
    | some xs => rw [c] at e; cases e; exact .tup h (dps_of r c)
  | .lst ds, _, _, .lst h r, e => by
    unfold D.pd at e
    cases c : pdL ds with
    | none => rw [c] at e; cases e
    | some xs => rw [c] at e; cases e; exact .lst h (dps_of r c)
  | .ob j, _, _, .ob h, e => by unfold D.pd at e; cases e
theorem dps_of {F : Hp} {ρ : List Addr} : ∀ {ds : List D} {vs : List V} {xs : List PyData}, RepL K F ρ vs ds → pdL ds = some xs → DpAll K F vs xs
  | [], _, _, .nil, e => by unfold pdL at e; cases e; exact .nil
  | d :: r, _, _, .cons h t, e => by
    unfold pdL at e
    split at e
    · rename_i x xs e1 e2
      cases e
      exact .cons (dp_of h e1) (dps_of t e2)
    · cases e
end
def fEqD (x y : D) : Option D := match x.pd, y.pd with
  | some a, some b => if SeqAt.shaped a = true ∧ SeqAt.shaped b = true then some (.bl (PyData.eqv a b)) else none
  | _, _ => none
def fNeD (x y : D) : Option D := match x.pd, y.pd with
  | some a, some b => if SeqAt.shaped a = true ∧ SeqAt.shaped b = true then some (.bl (!PyData.eqv a b)) else none
  | _, _ => none
theorem pk_eqD : PkOp K (rEqD K) fEqD := by
  intro W H vx vy x y d s kx ky e
  unfold fEqD at e
  split at e
  · rename_i a b e1 e2
    split at e
    · rename_i c
      cases e
      exact ⟨_, .bl _, fun Q k => ⟨a, b, dp_of (kx.rep s) e1, dp_of (ky.rep s) e2, c.1, c.2, k⟩⟩
    · cases e
  · cases e
theorem pk_neD : PkOp K (rNeD K) fNeD := by
  intro W H vx vy x y d s kx ky e
  unfold fNeD at e
  split at e
  · rename_i a b e1 e2
    split at e
    · rename_i c
      cases e
      exact ⟨_, .bl _, fun Q k => ⟨a, b, dp_of (kx.rep s) e1, dp_of (ky.rep s) e2, c.1, c.2, k⟩⟩
    · cases e
  · cases e
/-! ### built-ins -/
inductive PksOk (K : Frag) (W : Wd) (H : Hp) : List V → List D → Prop
  | nil : PksOk K W H [] []
  | cons {v : V} {d : D} {vs : List V} {ds : List D} : PkOk K W H v d → PksOk K W H vs ds → PksOk K W H (v :: vs) (d :: ds)
def peeks (st : St) : List EV → Option (List D)
  | [] => some []
  | e :: r => match peek st e, peeks st r with
    | some d, some ds => some (d :: ds)
    | _, _ => none
theorem peeks_ok {st : St} (I : Inv K cl W σ H st) : ∀ {evs : List EV} {vs : List V} {ds : List D}, EvsOk K W H σ vs evs → peeks st evs = some ds → PksOk K W H vs ds
  | [], _, _, .nil, e => by cases e; exact .nil
  | ev :: r, _, _, .cons k t, e => by
    unfold peeks at e
    split at e
    · rename_i d ds e1 e2
      cases e
      exact .cons (peek_ok I k e1) (peeks_ok I t e2)
    · cases e
def PkC (K : Frag) (r : List V → Hp → VK → Prop) (f : List D → Option D) : Prop := ∀ (W : Wd) (H : Hp) (vs : List V) (ds : List D) (d : D), Same W.F H → PksOk K W H vs ds → f ds = some d → ∃ v, Rep K W.F W.ρ v d ∧ ∀ Q : VK, Q v H → r vs H Q
def mPkC (f : List D → Option D) (ma : M (List EV)) : M EV := fun st => (ma st).bind fun evs st1 => match peeks st1 evs with
  | some ds => match f ds with
    | some d => .ok (.dat d) st1
    | none => .stuck
  | none => .stuck
theorem sE_pkC {r : List V → Hp → VK → Prop} {f : List D → Option D} {t : TA} {mt : M (List EV)} (hr : PkC K r f) (ha : SimA K cl E t mt) : SimE K cl E (tCB r t) (mPkC f mt) := by
  intro W σ H st I Q q
  refine ha W σ H st I _ (Res.imp (Res.bind q) fun evs st1 W1 H1 _ I1 x1 q1 vs ks _ => ?_)
  split at q1
  · rename_i ds e1
    split at q1
    · rename_i d e
      obtain ⟨v, rv, k⟩ := hr W1 H1 vs ds d I1.sub (peeks_ok I1 ks e1) e
      exact k Q (q1.now I1 v rv)
    · exact q1.elim
  · exact q1.elim
def fLenQ : List D → Option D
  | [.lst ds] => some (.int ds.length)
  | [.tup ds] => some (.int ds.length)
  | _ => none
theorem pk_lenQ : PkC K (fun xs H Q => ∃ p ys, xs = [.ref p] ∧ (SqL K H p ys ∨ SqT K H p ys) ∧ Q (.int ys.length) H) fLenQ := by
  intro W H vs ds d s ks e
  unfold fLenQ at e
  split at e
  · cases e
    cases ks with
    | cons k t =>
      cases t
      obtain ⟨a, us, rfl, q, r⟩ := k
      exact ⟨_, .int _, fun Q k => ⟨a, us, rfl, .inl q, by rw [r.len]; exact k⟩⟩
  · cases e
    cases ks with
    | cons k t =>
      cases t
      cases k with
      | tup h r => exact ⟨_, .int _, fun Q k => ⟨_, _, rfl, .inr (Kv.same_tup s h), by rw [r.len]; exact k⟩⟩
  · cases e
def fLenS : List D → Option D
  | [.str z] => if z.length ≤ sizeLine then some (.int z.length) else none
  | _ => none
theorem pk_lenS : PkC K (fun xs H Q => ∃ z, xs = [.str z] ∧ z.length ≤ sizeLine ∧ Q (.int z.length) H) fLenS := by
  intro W H vs ds d s ks e
  unfold fLenS at e
  split at e
  · split at e
    · rename_i c
      cases e
      cases ks with
      | cons k t => cases t; cases k; exact ⟨_, .int _, fun Q k => ⟨_, rfl, c, k⟩⟩
    · cases e
  · cases e
/-- by the plain values -/
theorem PkC.sc {r : List V → Hp → VK → Prop} {f : List D → Option D} (h : ∀ ds d, f ds = some d → ∃ vs vd, scL ds = some vs ∧ scV d = some vd ∧ ∀ (H : Hp) (Q : VK), Q vd H → r vs H Q) : PkC K r f := by
  intro W H vs ds d s ks e
  obtain ⟨ws, wd, es, ed, k⟩ := h ds d e
  have main : ∀ {ds : List D} {vs ws : List V}, PksOk K W H vs ds → scL ds = some ws → vs = ws := by
    intro ds vs ws ks
    induction ks generalizing ws with
    | nil => intro e; cases e; rfl
    | cons k t ih =>
      intro e
      unfold scL at e
      split at e
      · rename_i v vs e1 e2
        cases e
        rw [pk_sc e1 k, ih e2]
      · cases e
  exact ⟨wd, scV_mk ed, fun Q q => by rw [main ks es]; exact k H Q q⟩
def fAbs : List D → Option D
  | [.int i] => some (.int (if i < 0 then -i else i))
  | _ => none
theorem pk_abs : PkC K (fun xs H Q => ∃ i, xs = [.int i] ∧ Q (.int (if i < 0 then -i else i)) H) fAbs := PkC.sc fun ds d e => by
  unfold fAbs at e
  split at e
  · cases e; exact ⟨_, _, rfl, rfl, fun H Q q => ⟨_, rfl, q⟩⟩
  · cases e
def fMax2 : List D → Option D
  | [.int i, .int j] => some (.int (if j > i then j else i))
  | _ => none
theorem pk_max2 : PkC K (fun xs H Q => ∃ i j, xs = [.int i, .int j] ∧ Q (.int (if j > i then j else i)) H) fMax2 := PkC.sc fun ds d e => by
  unfold fMax2 at e
  split at e
  · cases e; exact ⟨_, _, rfl, rfl, fun H Q q => ⟨_, _, rfl, q⟩⟩
  · cases e
def fMin2 : List D → Option D
  | [.int i, .int j] => some (.int (if j < i then j else i))
  | _ => none
theorem pk_min2 : PkC K (fun xs H Q => ∃ i j, xs = [.int i, .int j] ∧ Q (.int (if j < i then j else i)) H) fMin2 := PkC.sc fun ds d e => by
  unfold fMin2 at e
  split at e
  · cases e; exact ⟨_, _, rfl, rfl, fun H Q q => ⟨_, _, rfl, q⟩⟩
  · cases e
def fInt1 : List D → Option D
  | [.int i] => some (.int i)
  | [.bl k] => some (.int (if k then 1 else 0))
  | _ => none
theorem pk_int1 : PkC K (fun xs H Q => (∃ i, xs = [.int i] ∧ Q (.int i) H) ∨ ∃ k, xs = [.bl k] ∧ Q (.int (if k then 1 else 0)) H) fInt1 := PkC.sc fun ds d e => by
  unfold fInt1 at e
  split at e
  · cases e; exact ⟨_, _, rfl, rfl, fun H Q q => .inl ⟨_, rfl, q⟩⟩
  · cases e; exact ⟨_, _, rfl, rfl, fun H Q q => .inr ⟨_, rfl, q⟩⟩
  · cases e
def fStrI : List D → Option D
  | [.int i] => if i.natAbs.log2 < 1920 then some (.str (toString i)) else none
  | _ => none
theorem pk_strI : PkC K (fun xs H Q => ∃ i, xs = [.int i] ∧ i.natAbs.log2 < 1920 ∧ Q (.str (toString i)) H) fStrI := PkC.sc fun ds d e => by
  unfold fStrI at e
  split at e
  · split at e
    · rename_i c; cases e; exact ⟨_, _, rfl, rfl, fun H Q q => ⟨_, rfl, c, q⟩⟩
    · cases e
  · cases e
def fOrd : List D → Option D
  | [.str x] => if x.length = 1 then some (.int (x.cps.getD 0 0 : Nat)) else none
  | _ => none
theorem pk_ord : PkC K (fun xs H Q => ∃ x, xs = [.str x] ∧ x.length = 1 ∧ Q (.int (x.cps.getD 0 0 : Nat)) H) fOrd := PkC.sc fun ds d e => by
  unfold fOrd at e
  split at e
  · split at e
    · rename_i c; cases e; exact ⟨_, _, rfl, rfl, fun H Q q => ⟨_, rfl, c, q⟩⟩
    · cases e
  · cases e
def fIntS : List D → Option D
  | [.str a] => match PySem.intText? a with
    | some n => if a.length ≤ 640 then some (.int n) else none
    | none => none
  | _ => none
theorem pk_intS : PkC K (fun xs H Q => ∃ a n, xs = [.str a] ∧ PySem.intText? a = some n ∧ a.length ≤ 640 ∧ Q (.int n) H) fIntS := PkC.sc fun ds d e => by
  unfold fIntS at e
  split at e
  · split at e
    · rename_i n en
      split at e
      · rename_i c; cases e; exact ⟨_, _, rfl, rfl, fun H Q q => ⟨_, n, rfl, en, c, q⟩⟩
      · cases e
    · cases e
  · cases e
def intsD : List D → Option (List Int)
  | [] => some []
  | .int i :: r => (intsD r).map (i :: ·)
  | _ => none
theorem intsD_rep {F : Hp} {ρ : List Addr} : ∀ {ds : List D} {vs : List V} {ns : List Int}, intsD ds = some ns → RepL K F ρ vs ds → vs = ns.map V.int
  | [], _, _, e, .nil => by cases e; rfl
  | .int i :: r, _, _, e, .cons h t => by
    unfold intsD at e
    cases c : intsD r with
    | none => rw [c] at e; cases e
    | some ns => rw [c] at e; cases e; cases h; rw [List.map_cons, intsD_rep c t]
  | .non :: _, _, _, e, .cons _ _ => by cases e
  | .bl _ :: _, _, _, e, .cons _ _ => by cases e
  | .str _ :: _, _, _, e, .cons _ _ => by cases e
  | .tup _ :: _, _, _, e, .cons _ _ => by cases e
  | .lst _ :: _, _, _, e, .cons _ _ => by cases e
  | .ob _ :: _, _, _, e, .cons _ _ => by cases e
  | .ty _ :: _, _, _, e, .cons _ _ => by cases e
def bsD : List D → Option (List Bool)
  | [] => some []
  | .bl i :: r => (bsD r).map (i :: ·)
  | _ => none
theorem bsD_rep {F : Hp} {ρ : List Addr} : ∀ {ds : List D} {vs : List V} {ns : List Bool}, bsD ds = some ns → RepL K F ρ vs ds → vs = ns.map V.bl
  | [], _, _, e, .nil => by cases e; rfl
  | .bl i :: r, _, _, e, .cons h t => by
    unfold bsD at e
    cases c : bsD r with
    | none => rw [c] at e; cases e
    | some ns => rw [c] at e; cases e; cases h; rw [List.map_cons, bsD_rep c t]
  | .non :: _, _, _, e, .cons _ _ => by cases e
  | .int _ :: _, _, _, e, .cons _ _ => by cases e
  | .str _ :: _, _, _, e, .cons _ _ => by cases e
  | .tup _ :: _, _, _, e, .cons _ _ => by cases e
  | .lst _ :: _, _, _, e, .cons _ _ => by cases e
  | .ob _ :: _, _, _, e, .cons _ _ => by cases e
  | .ty _ :: _, _, _, e, .cons _ _ => by cases e
def strsD : List D → Option (List Str)
  | [] => some []
  | .str i :: r => (strsD r).map (i :: ·)
  | _ => none
theorem strsD_rep {F : Hp} {ρ : List Addr} : ∀ {ds : List D} {vs : List V} {ns : List Str}, strsD ds = some ns → RepL K F ρ vs ds → vs = ns.map V.str
  | [], _, _, e, .nil => by cases e; rfl
  | .str i :: r, _, _, e, .cons h t => by
    unfold strsD at e
    cases c : strsD r with
    | none => rw [c] at e; cases e
    | some ns => rw [c] at e; cases e; cases h; rw [List.map_cons, strsD_rep c t]
  | .non :: _, _, _, e, .cons _ _ => by cases e
  | .int _ :: _, _, _, e, .cons _ _ => by cases e
  | .bl _ :: _, _, _, e, .cons _ _ => by cases e
  | .tup _ :: _, _, _, e, .cons _ _ => by cases e
  | .lst _ :: _, _, _, e, .cons _ _ => by cases e
  | .ob _ :: _, _, _, e, .cons _ _ => by cases e
  | .ty _ :: _, _, _, e, .cons _ _ => by cases e
theorem intsD_map : ∀ ns : List Int, intsD (ns.map D.int) = some ns
  | [] => rfl
  | i :: r => by rw [List.map_cons, intsD, intsD_map r]; rfl
theorem bsD_map : ∀ ns : List Bool, bsD (ns.map D.bl) = some ns
  | [] => rfl
  | i :: r => by rw [List.map_cons, bsD, bsD_map r]; rfl
theorem strsD_map : ∀ ns : List Str, strsD (ns.map D.str) = some ns
  | [] => rfl
  | i :: r => by rw [List.map_cons, strsD, strsD_map r]; rfl
def fSum : List D → Option D
  | [.lst ds] => (intsD ds).map fun ns => .int ns.sum
  | _ => none
theorem pk_sum : PkC K (rSum K) fSum := by
  intro W H vs ds d s ks e
  unfold fSum at e
  split at e
  · rename_i es
    cases ks with
    | cons k t =>
      cases t
      obtain ⟨a, us, rfl, q, r⟩ := k
      cases c : intsD es with
      | none => rw [c] at e; cases e
      | some ns =>
        rw [c] at e
        cases e
        rw [intsD_rep c r] at q
        exact ⟨_, .int _, fun Q k => ⟨a, ns, rfl, q, k⟩⟩
  · cases e
def fAll : List D → Option D
  | [.lst ds] => (bsD ds).map fun ns => .bl (ns.all id)
  | _ => none
theorem pk_all : PkC K (rAll K) fAll := by
  intro W H vs ds d s ks e
  unfold fAll at e
  split at e
  · rename_i es
    cases ks with
    | cons k t =>
      cases t
      obtain ⟨a, us, rfl, q, r⟩ := k
      cases c : bsD es with
      | none => rw [c] at e; cases e
      | some ns =>
        rw [c] at e
        cases e
        rw [bsD_rep c r] at q
        exact ⟨_, .bl _, fun Q k => ⟨a, ns, rfl, q, k⟩⟩
  · cases e
end
end Mi

set_option Elab.async false
set_option linter.all false
set_option maxRecDepth 100000
set_option maxHeartbeats 4000000
namespace Mi
open PySem PySem.Spec PyProof.Rows L2
section
variable {K : Frag} {cl : (Str → Addr) × Addr × Bool} {E : Kv.Er → L2.St → Hp → Prop} {W : Wd} {σ : L2.St} {H : Hp} {ta tb tc : TE} {ma mb mc : M EV}
/-! ### one place -/
def PkUn (K : Frag) (r : V → Hp → VK → Prop) (f : D → Option D) : Prop := ∀ (W : Wd) (H : Hp) (vx : V) (x d : D), Same W.F H → PkOk K W H vx x → f x = some d → ∃ v, Rep K W.F W.ρ v d ∧ ∀ Q : VK, Q v H → r vx H Q
def mUn (f : D → Option D) (ma : M EV) : M EV := fun st => (ma st).bind fun a st1 => match peek st1 a with
  | some x => match f x with
    | some d => .ok (.dat d) st1
    | none => .stuck
  | none => .stuck
theorem sE_un {r : V → Hp → VK → Prop} {f : D → Option D} (hr : PkUn K r f) (ha : SimE K cl E ta ma) : SimE K cl E (tUn r ta) (mUn f ma) := by
  intro W σ H st I Q q
  refine ha W σ H st I _ (Res.imp (Res.bind q) fun a st1 W1 H1 hm1 I1 x1 q1 va ka => ?_)
  split at q1
  · rename_i x ex
    split at q1
    · rename_i d e
      obtain ⟨v, rv, k⟩ := hr W1 H1 va x d I1.sub (peek_ok I1 ka ex) e
      exact k Q (q1.now I1 v rv)
    · exact q1.elim
  · exact q1.elim
def fNeg : D → Option D
  | .int i => some (.int (-i))
  | _ => none
theorem pk_neg : PkUn K (rU fun i => .int (-i)) fNeg := by
  intro W H vx x d s kx e
  unfold fNeg at e
  split at e
  · cases e; cases kx; exact ⟨_, .int _, fun Q q => ⟨_, rfl, q⟩⟩
  · cases e
/-! ### texts' methods -/
def PkM1 (K : Frag) (r : V → List V → Hp → VK → Prop) (f : D → D → Option D) : Prop := ∀ (W : Wd) (H : Hp) (vx vy : V) (x y d : D), Same W.F H → PkOk K W H vx x → PkOk K W H vy y → f x y = some d → ∃ v, Rep K W.F W.ρ v d ∧ ∀ Q : VK, Q v H → r vx [vy] H Q
/-- the text first, then the argument -/
def mM1 (f : D → D → Option D) (ma mb : M EV) : M EV := fun st => (ma st).bind fun a st1 => match a with
  | .dat (.str z) => (mb st1).bind fun b st2 => match peek st2 b with
    | some y => match f (.str z) y with
      | some d => .ok (.dat d) st2
      | none => .stuck
    | none => .stuck
  | _ => .stuck
theorem sE_tM1 {r : V → List V → Hp → VK → Prop} {f : D → D → Option D} (hr : PkM1 K r f) (ha : SimE K cl E ta ma) (hb : SimE K cl E tb mb) : SimE K cl E (tM1 r ta tb) (mM1 f ma mb) := by
  intro W σ H st I Q q
  refine ha W σ H st I _ (Res.imp (Res.bind q) fun a st1 W1 H1 hm1 I1 x1 q1 va ka => ?_)
  split at q1
  · rename_i z
    cases ka
    refine ⟨⟨_, rfl⟩, hb W1 σ H1 st1 I1 _ (Res.imp (Res.bind q1) fun b st2 W2 H2 hm2 I2 x2 q2 vb kb => ?_)⟩
    split at q2
    · rename_i y ey
      split at q2
      · rename_i d e
        obtain ⟨v, rv, k⟩ := hr W2 H2 (.str z) vb (.str z) y d I2.sub (.str z) (peek_ok I2 kb ey) e
        exact k Q (q2.now I2 v rv)
      · exact q2.elim
    · exact q2.elim
  · exact q1.elim
theorem sE_tBM {r : V → List V → Hp → VK → Prop} {f : D → D → Option D} (hr : PkM1 K r f) (ha : SimE K cl E ta ma) (hb : SimE K cl E tb mb) : SimE K cl E (tBM K "str" r ta (tCons tb tNil)) (mM1 f ma mb) := by
  intro W σ H st I Q q
  refine ha W σ H st I _ (Res.imp (Res.bind q) fun a st1 W1 H1 hm1 I1 x1 q1 va ka => ?_)
  split at q1
  · rename_i z
    cases ka
    refine ⟨rfl, hb W1 σ H1 st1 I1 _ (Res.imp (Res.bind q1) fun b st2 W2 H2 hm2 I2 x2 q2 vb kb => ?_)⟩
    split at q2
    · rename_i y ey
      split at q2
      · rename_i d e
        obtain ⟨v, rv, k⟩ := hr W2 H2 (.str z) vb (.str z) y d I2.sub (.str z) (peek_ok I2 kb ey) e
        exact k Q (q2.now I2 v rv)
      · exact q2.elim
    · exact q2.elim
  · exact q1.elim
def PkM0 (r : V → List V → Hp → VK → Prop) (f : Str → Option D) : Prop := ∀ (z : Str) (d : D), f z = some d → ∃ vd, scV d = some vd ∧ ∀ (H : Hp) (Q : VK), Q vd H → r (.str z) [] H Q
def mM0 (f : Str → Option D) (ma : M EV) : M EV := fun st => (ma st).bind fun a st1 => match a with
  | .dat (.str z) => match f z with
      | some d => .ok (.dat d) st1
      | none => .stuck
  | _ => .stuck
theorem sE_tBM0 {r : V → List V → Hp → VK → Prop} {f : Str → Option D} (hr : PkM0 r f) (ha : SimE K cl E ta ma) : SimE K cl E (tBM0 K "str" r ta) (mM0 f ma) := by
  intro W σ H st I Q q
  refine ha W σ H st I _ (Res.imp (Res.bind q) fun a st1 W1 H1 hm1 I1 x1 q1 va ka => ?_)
  split at q1
  · rename_i z
    cases ka
    split at q1
    · rename_i d e
      obtain ⟨vd, ed, k⟩ := hr z d e
      exact ⟨rfl, k H1 Q (q1.now I1 _ (scV_mk ed))⟩
    · exact q1.elim
  · exact q1.elim
theorem sE_tM0 {r : V → List V → Hp → VK → Prop} {f : Str → Option D} (hr : PkM0 r f) (ha : SimE K cl E ta ma) : SimE K cl E (tM0 r ta) (mM0 f ma) := by
  intro W σ H st I Q q
  refine ha W σ H st I _ (Res.imp (Res.bind q) fun a st1 W1 H1 hm1 I1 x1 q1 va ka => ?_)
  split at q1
  · rename_i z
    cases ka
    split at q1
    · rename_i d e
      obtain ⟨vd, ed, k⟩ := hr z d e
      exact ⟨⟨_, rfl⟩, k H1 Q (q1.now I1 _ (scV_mk ed))⟩
    · exact q1.elim
  · exact q1.elim
def fIsdigit (z : Str) : Option D := some (.bl (Txt.isdigit z))
theorem pk_isdigit : PkM0 (fun x xs H Q => ∃ a, x = .str a ∧ xs = [] ∧ True ∧ Q (.bl (Txt.isdigit a)) H) fIsdigit := fun z d e => by
  cases e; exact ⟨_, rfl, fun H Q q => ⟨z, rfl, rfl, trivial, q⟩⟩
def fZfill : D → D → Option D
  | .str a, .int i => if PadOk i = true then some (.str (Txt.zfill a i)) else none
  | _, _ => none
theorem pk_zfill : PkM1 K (fun x xs H Q => ∃ (a : Str) (i : Int), x = .str a ∧ xs = [.int i] ∧ PadOk i = true ∧ Q (.str (Txt.zfill a i)) H) fZfill := by
  intro W H vx vy x y d s kx ky e
  unfold fZfill at e
  split at e
  · split at e
    · rename_i c; cases e; cases kx; cases ky; exact ⟨_, .str _, fun Q q => ⟨_, _, rfl, rfl, c, q⟩⟩
    · cases e
  · cases e
def fFind : D → D → Option D
  | .str a, .str b => some (.int (Txt.find a b))
  | _, _ => none
theorem pk_find : PkM1 K (fun x xs H Q => ∃ a b, x = .str a ∧ xs = [.str b] ∧ Q (.int (Txt.find a b)) H) fFind := by
  intro W H vx vy x y d s kx ky e
  unfold fFind at e
  split at e
  · cases e; cases kx; cases ky; exact ⟨_, .int _, fun Q q => ⟨_, _, rfl, rfl, q⟩⟩
  · cases e
def fEndswith : D → D → Option D
  | .str a, .str b => some (.bl (Txt.endswith a b))
  | _, _ => none
theorem pk_endswith : PkM1 K (fun x xs H Q => ∃ a b, x = .str a ∧ xs = [.str b] ∧ Q (.bl (Txt.endswith a b)) H) fEndswith := by
  intro W H vx vy x y d s kx ky e
  unfold fEndswith at e
  split at e
  · cases e; cases kx; cases ky; exact ⟨_, .bl _, fun Q q => ⟨_, _, rfl, rfl, q⟩⟩
  · cases e
def fJoin : D → D → Option D
  | .str a, .lst ds => match strsD ds with
    | some ys => if (ys.map (·.length)).sum + ys.length * a.length ≤ 16777216 then some (.str (Txt.join a ys)) else none
    | none => none
  | _, _ => none
theorem pk_join : PkM1 K (fun x xs H Q => ∃ a p, ∃ ys : List Str, x = .str a ∧ xs = [.ref p] ∧ (SqL K H p (ys.map V.str) ∨ SqT K H p (ys.map V.str)) ∧ (ys.map (·.length)).sum + ys.length * a.length ≤ 16777216 ∧ Q (.str (Txt.join a ys)) H) fJoin := by
  intro W H vx vy x y d s kx ky e
  unfold fJoin at e
  split at e
  · split at e
    · rename_i ys ey
      split at e
      · rename_i c
        cases e
        cases kx
        obtain ⟨a, us, rfl, q, r⟩ := ky
        rw [strsD_rep ey r] at q
        exact ⟨_, .str _, fun Q k => ⟨_, a, ys, rfl, rfl, .inl q, c, k⟩⟩
      · cases e
    · cases e
  · cases e
/-! ### new lists, new tuples -/
/-- a new list out of what is read -/
def PkN2 (K : Frag) (r : R2) (f : D → D → Option (List D)) : Prop := ∀ (W : Wd) (H : Hp) (vx vy : V) (x y : D) (ds : List D), Same W.F H → PkOk K W H vx x → PkOk K W H vy y → f x y = some ds → ∃ vs, RepL K W.F W.ρ vs ds ∧ ∀ Q : VK, (∀ p, H p = none → Q (.ref p) (upd H p (.lst vs))) → r vx vy H Q
def mNew2 (f : D → D → Option (List D)) (ma mb : M EV) : M BX := fun st => (ma st).bind fun a st1 => (mb st1).bind fun b st2 => match peek st2 a, peek st2 b with
  | some x, some y => match f x y with
    | some ds => .ok (.lst ds) st2
    | none => .stuck
  | _, _ => .stuck
theorem sN_2 {r : R2} {f : D → D → Option (List D)} (hr : PkN2 K r f) (ha : SimE K cl E ta ma) (hb : SimE K cl E tb mb) : SimN K cl E (tOp r ta tb) (mNew2 f ma mb) := by
  intro W σ H st I Q q
  refine ha W σ H st I _ (Res.imp (Res.bind q) fun a st1 W1 H1 hm1 I1 x1 q1 va ka => ?_)
  refine hb W1 σ H1 st1 I1 _ (Res.imp (Res.bind q1) fun b st2 W2 H2 hm2 I2 x2 q2 vb kb => ?_)
  replace ka := ka.ext x2
  split at q2
  · rename_i x y ex ey
    split at q2
    · rename_i ds e
      obtain ⟨vs, rv, k⟩ := hr W2 H2 va vb x y ds I2.sub (peek_ok I2 ka ex) (peek_ok I2 kb ey) e
      refine k Q fun p hp => ?_
      obtain ⟨z1, z2⟩ := I2.free hp
      exact q2 _ _ (I2.new0 hp) (Ext.new0 hp) p (x1.lv p (x2.lv p hp)) z2 z1 ⟨vs, upd_same, rv⟩
    · exact q2.elim
  · exact q2.elim
def fCatL : D → D → Option (List D)
  | .lst xs, .lst ys => if xs.length + ys.length ≤ sizeLine then some (xs ++ ys) else none
  | _, _ => none
theorem pk_catL : PkN2 K (Kv.rCatS K) fCatL := by
  intro W H vx vy x y d s kx ky e
  unfold fCatL at e
  split at e
  · split at e
    · rename_i c
      cases e
      obtain ⟨a, us, rfl, q, r⟩ := kx
      obtain ⟨b, ws, rfl, q2, r2⟩ := ky
      exact ⟨_, r.append r2, fun Q k => ⟨a, b, us, ws, rfl, rfl, q, q2, by rw [r.len, r2.len]; exact c, k⟩⟩
    · cases e
  · cases e
def PkNC (K : Frag) (r : List V → Hp → VK → Prop) (f : List D → Option (List D)) : Prop := ∀ (W : Wd) (H : Hp) (vs : List V) (ds : List D) (es : List D), Same W.F H → PksOk K W H vs ds → f ds = some es → ∃ us, RepL K W.F W.ρ us es ∧ ∀ Q : VK, (∀ p, H p = none → Q (.ref p) (upd H p (.lst us))) → r vs H Q
def mNewC (f : List D → Option (List D)) (ma : M (List EV)) : M BX := fun st => (ma st).bind fun evs st1 => match peeks st1 evs with
  | some ds => match f ds with
    | some d => .ok (.lst d) st1
    | none => .stuck
  | none => .stuck
theorem sN_C {r : List V → Hp → VK → Prop} {f : List D → Option (List D)} {t : TA} {mt : M (List EV)} (hr : PkNC K r f) (ha : SimA K cl E t mt) : SimN K cl E (tCB r t) (mNewC f mt) := by
  intro W σ H st I Q q
  refine ha W σ H st I _ (Res.imp (Res.bind q) fun evs st1 W1 H1 hm1 I1 x1 q1 vs ks _ => ?_)
  split at q1
  · rename_i ds e1
    split at q1
    · rename_i d e
      obtain ⟨us, rv, k⟩ := hr W1 H1 vs ds d I1.sub (peeks_ok I1 ks e1) e
      refine k Q fun p hp => ?_
      obtain ⟨z1, z2⟩ := I1.free hp
      exact q1 _ _ (I1.new0 hp) (Ext.new0 hp) p (x1.lv p hp) z2 z1 ⟨us, upd_same, rv⟩
    · exact q1.elim
  · exact q1.elim
def fListOf : List D → Option (List D)
  | [.lst ds] => some ds
  | [.tup ds] => some ds
  | _ => none
theorem pk_listOf : PkNC K (fun xs H Q => ∃ p ys, xs = [.ref p] ∧ (SqL K H p ys ∨ SqT K H p ys) ∧ ∀ l, H l = none → Q (.ref l) (upd H l (.lst ys))) fListOf := by
  intro W H vs ds d s ks e
  unfold fListOf at e
  split at e
  · cases e
    cases ks with
    | cons k t =>
      cases t
      obtain ⟨a, us, rfl, q, r⟩ := k
      exact ⟨_, r, fun Q k => ⟨a, us, rfl, .inl q, k⟩⟩
  · cases e
    cases ks with
    | cons k t =>
      cases t
      cases k with
      | tup h r => exact ⟨_, r, fun Q k => ⟨_, _, rfl, .inr (Kv.same_tup s h), k⟩⟩
  · cases e
/-! ### slices -/
def SimO (K : Frag) (cl : (Str → Addr) × Addr × Bool) (E : Kv.Er → L2.St → Hp → Prop) (to : TO) (mo : M (Option Int)) : Prop := ∀ W σ H st, Inv K cl W σ H st → ∀ Q : Option Int → Hp → Prop,
  Res K cl E W σ H (mo st) (fun b _ _ H' => Q b H') → to σ H Q
theorem sO_none : SimO K cl E tNoPart (M.pure none) := fun W σ H st I Q q => q.now I
def mPart (ma : M EV) : M (Option Int) := fun st => (ma st).bind fun a st1 => match a with
  | .dat (.int i) => .ok (some i) st1
  | _ => .stuck
theorem sO_some (ha : SimE K cl E ta ma) : SimO K cl E (tPart ta) (mPart ma) := by
  intro W σ H st I Q q
  refine ha W σ H st I _ (Res.imp (Res.bind q) fun a st1 W1 H1 hm1 I1 x1 q1 va ka => ?_)
  split at q1
  · cases ka; exact ⟨_, rfl, q1.now I1⟩
  · exact q1.elim
def cutD (xs : List D) (lo hi : Option Int) : List D := (xs.drop (HT.sIx xs.length 0 lo)).take (HT.sIx xs.length xs.length hi - HT.sIx xs.length 0 lo)
def mSlL (ma : M EV) (ml mh : M (Option Int)) : M BX := fun st => (ma st).bind fun a st1 => (ml st1).bind fun lo st2 => (mh st2).bind fun hi st3 => match peek st3 a with
  | some (.lst ds) => .ok (.lst (cutD ds lo hi)) st3
  | _ => .stuck
theorem sN_slL {tl th : TO} {ml mh : M (Option Int)} (ha : SimE K cl E ta ma) (hl : SimO K cl E tl ml) (hh : SimO K cl E th mh) : SimN K cl E (tSl (rSlL K) ta tl th) (mSlL ma ml mh) := by
  intro W σ H st I Q q
  refine ha W σ H st I _ (Res.imp (Res.bind q) fun a st1 W1 H1 hm1 I1 x1 q1 va ka => ?_)
  refine hl W1 σ H1 st1 I1 _ (Res.imp (Res.bind q1) fun lo st2 W2 H2 hm2 I2 x2 q2 => ?_)
  refine hh W2 σ H2 st2 I2 _ (Res.imp (Res.bind q2) fun hi st3 W3 H3 hm3 I3 x3 q3 => ?_)
  replace ka := (ka.ext x2).ext x3
  split at q3
  · rename_i ds e
    obtain ⟨p, vs, rfl, hq, r⟩ := peek_ok I3 ka e
    refine ⟨p, vs, rfl, hq, fun p hp => ?_⟩
    obtain ⟨z1, z2⟩ := I3.free hp
    refine q3 _ _ (I3.new0 hp) (Ext.new0 hp) p (x1.lv p (x2.lv p (x3.lv p hp))) z2 z1 ⟨_, upd_same, ?_⟩
    unfold cutV cutD
    rw [r.len]
    exact (r.drop _).take _
  · exact q3.elim
def mSlS (ma : M EV) (ml mh : M (Option Int)) : M EV := fun st => (ma st).bind fun a st1 => (ml st1).bind fun lo st2 => (mh st2).bind fun hi st3 => match a with
  | .dat (.str z) => if z.length ≤ sizeLine then .ok (.dat (.str (cutS z lo hi))) st3 else .stuck
  | _ => .stuck
theorem sE_slS {tl th : TO} {ml mh : M (Option Int)} (ha : SimE K cl E ta ma) (hl : SimO K cl E tl ml) (hh : SimO K cl E th mh) : SimE K cl E (tSl rSlS ta tl th) (mSlS ma ml mh) := by
  intro W σ H st I Q q
  refine ha W σ H st I _ (Res.imp (Res.bind q) fun a st1 W1 H1 hm1 I1 x1 q1 va ka => ?_)
  refine hl W1 σ H1 st1 I1 _ (Res.imp (Res.bind q1) fun lo st2 W2 H2 hm2 I2 x2 q2 => ?_)
  refine hh W2 σ H2 st2 I2 _ (Res.imp (Res.bind q2) fun hi st3 W3 H3 hm3 I3 x3 q3 => ?_)
  split at q3
  · rename_i z
    cases ka
    split at q3
    · rename_i c
      exact ⟨z, rfl, c, q3.now I3 _ (.str _)⟩
    · exact q3.elim
  · exact q3.elim
/-! ### what one owner has is changed -/
def putB (f : Str) (b : BX) : List (Str × FV) → List (Str × FV)
  | [] => []
  | (g, x) :: r => (g, if g = f then (match x with | .bx _ => .bx b | .dat d => .dat d) else x) :: putB f b r
def setH (st : St) (ev : EV) (b : BX) : Option St := match ev with
  | .sl i => some { st with env := st.env.set i (some (.own b)) }
  | .io k => some { st with io := st.io.set k b }
  | .fl j f => match st.S[j]? with
    | some (.ins c fs) => some { st with S := st.S.set j (.ins c (putB f b fs)) }
    | _ => none
  | .dat (.ob j) => some { st with S := st.S.set j (.bx b) }
  | _ => none
/-- its list or dict, if it may be changed -/
def ownB (st : St) (ev : EV) : Option BX := match ev with
  | .sl i => match st.env[i]? with
    | some (some (.own b)) => some b
    | _ => none
  | .io k => st.io[k]?
  | .fl j f => match st.S[j]? with
    | some (.ins _ fs) => match fs.lookup f with
      | some (.bx b) => some b
      | _ => none
    | _ => none
  | .dat (.ob j) => match st.S[j]? with
    | some (.bx b) => some b
    | _ => none
  | _ => none
theorem fs_put {j : Nat} {f : Str} {p : Addr} {o : HO} {b : BX} (hin : ∀ q, W.ow q = some (.fd j f) → q = p) (hne : ∀ q g, W.ow q = some (.fd j g) → g ≠ f → upd H p o q = H q) (k : BxOk K W (upd H p o) p b) :
    ∀ {vs : List (Str × V)} {fs : List (Str × FV)}, FsOk K W H j vs fs → FsOk K W (upd H p o) j vs (putB f b fs)
  | _, _, .nil => .nil
  | _, _, .cons (f := g) (x := x) h t => by
    refine .cons ?_ (fs_put hin hne k t)
    by_cases c : g = f
    · subst c
      rw [if_pos rfl]
      cases x with
      | dat d => exact h
      | bx b0 => obtain ⟨q, e, h2, _⟩ := h; cases hin q h2; exact ⟨_, e, h2, k⟩
    · rw [if_neg c]
      cases x with
      | dat d => exact h
      | bx b0 => obtain ⟨q, e, h2, h3⟩ := h; exact ⟨q, e, h2, h3.kp (Same.refl _) (List.prefix_refl _) (hne q g h2 c)⟩
theorem Inv.mutFd {st : St} {j : Nat} {f c : Str} {fs : List (Str × FV)} {b' : BX} {p : Addr} {o : HO} (I : Inv K cl W σ H st) (e : st.S[j]? = some (.ins c fs)) (ho : W.ow p = some (.fd j f)) (k : BxOk K W (upd H p o) p b') :
    Inv K cl W σ (upd H p o) { st with S := st.S.set j (.ins c (putB f b' fs)) } := by
  have hne : ∀ q t, W.ow q = some t → t ≠ .fd j f → upd H p o q = H q := fun q t e n => by
    have c : q ≠ p := fun c => by subst c; rw [ho] at e; cases e; exact n rfl
    exact upd_ne c
  refine ⟨I.xeq, I.nt, sub_upd I.sub (I.out p _ ho).1, out_upd I, I.inj, I.len, fun i sv ej => ?_, fun i b ej => ?_, by simp [I.rlen], fun i o' ei => ?_⟩
  · exact (I.slots i sv ej).kp (Same.refl _) (List.prefix_refl _) (fun _ _ h _ => h) fun q h => ⟨hne q _ h (by simp), h⟩
  · obtain ⟨q, h, k2⟩ := I.ios i b ej
    exact ⟨q, h, k2.kp (Same.refl _) (List.prefix_refl _) (hne q _ h (by simp))⟩
  · by_cases cc : j = i
    · subst cc
      have := get_set_eq e ei
      subst this
      obtain ⟨a, dx, vs, e1, e2, e3, e4, e5, hf⟩ := I.obs j _ e
      refine ⟨a, dx, vs, e1, e2, e3, (hne dx _ e3 (by simp)).trans e4, (hne a _ e2 (by simp)).trans e5, fs_put (fun q h => I.inj q p _ h ho (by simp)) (fun q g h n => hne q _ h (fun z => n (by cases z; rfl))) k hf⟩
    · have ei : (st.S.set j (.ins c (putB f b' fs)))[i]? = some o' := ei
      rw [get_set_ne cc] at ei
      exact (I.obs i o' ei).kp (Same.refl _) (List.prefix_refl _) fun q t h z => ⟨hne q t h (by
        rcases z with z | z | ⟨g, z⟩
        · simp [z]
        · simp [z]
        · rw [z]; intro y; cases y; exact cc rfl), h⟩
theorem Inv.mutOb {st : St} {j : Nat} {b b' : BX} {p : Addr} {o : HO} (I : Inv K cl W σ H st) (e : st.S[j]? = some (.bx b)) (hr : W.ρ[j]? = some p) (ho : W.ow p = some (.ob j)) (k : BxOk K W (upd H p o) p b') :
    Inv K cl W σ (upd H p o) { st with S := st.S.set j (.bx b') } := by
  have hne : ∀ q t, W.ow q = some t → t ≠ .ob j → upd H p o q = H q := fun q t e n => by
    have c : q ≠ p := fun c => by subst c; rw [ho] at e; cases e; exact n rfl
    exact upd_ne c
  refine ⟨I.xeq, I.nt, sub_upd I.sub (I.out p _ ho).1, out_upd I, I.inj, I.len, fun i sv ej => ?_, fun i b ej => ?_, by simp [I.rlen], fun i o' ei => ?_⟩
  · exact (I.slots i sv ej).kp (Same.refl _) (List.prefix_refl _) (fun _ _ h _ => h) fun q h => ⟨hne q _ h (by simp), h⟩
  · obtain ⟨q, h, k2⟩ := I.ios i b ej
    exact ⟨q, h, k2.kp (Same.refl _) (List.prefix_refl _) (hne q _ h (by simp))⟩
  · by_cases cc : j = i
    · subst cc
      have := get_set_eq e ei
      subst this
      exact ⟨p, hr, ho, k⟩
    · have ei : (st.S.set j (.bx b'))[i]? = some o' := ei
      rw [get_set_ne cc] at ei
      exact (I.obs i o' ei).kp (Same.refl _) (List.prefix_refl _) fun q t h z => ⟨hne q t h (by
        rcases z with z | z | ⟨g, z⟩
        · rw [z]; intro y; cases y; exact cc rfl
        · simp [z]
        · simp [z]), h⟩
/-- the owner's thing, and how it is changed -/
theorem own_mut {st : St} {v : V} {ev : EV} {b : BX} (I : Inv K cl W σ H st) (k : EvOk K W H σ v ev) (e : ownB st ev = some b) : ∃ p t, v = .ref p ∧ W.ow p = some t ∧ t ≠ .xt ∧ BxOk K W H p b ∧ ∀ (o : HO) (b' : BX), BxOk K W (upd H p o) p b' → ∃ st', setH st ev b' = some st' ∧ Inv K cl W σ (upd H p o) st' := by
  cases ev with
  | dat x =>
    cases x with
    | ob j =>
      unfold ownB at e
      dsimp only at e
      split at e
      · rename_i b0 es
        cases e
        obtain ⟨a, e1, e2, e3⟩ := I.obs j _ es
        cases k with
        | ob h =>
          rw [h] at e1
          cases e1
          exact ⟨_, _, rfl, e2, by simp, e3, fun o b' k => ⟨_, rfl, I.mutOb es h e2 k⟩⟩
      · cases e
    | _ => cases e
  | sl i =>
    unfold ownB at e
    dsimp only at e
    have k : σ[i]? = some (some v) := k
    split at e
    · rename_i b0 es
      cases e
      obtain ⟨p, h1, h2, h3⟩ := I.slots i _ es
      rw [k] at h1
      cases h1
      exact ⟨_, _, rfl, h2, by simp, h3, fun o b' kk => ⟨_, rfl, I.mutSl es k h2 kk⟩⟩
    · cases e
  | io i =>
    unfold ownB at e
    dsimp only at e
    obtain ⟨p, rfl, o⟩ := k
    obtain ⟨q, h2, h3⟩ := I.ios i _ e
    cases I.inj p q _ o h2 (by simp)
    exact ⟨_, _, rfl, h2, by simp, h3, fun o b' kk => ⟨_, rfl, I.mutIo e h2 kk⟩⟩
  | fl j f =>
    unfold ownB at e
    dsimp only at e
    obtain ⟨p, rfl, o⟩ := k
    split at e
    · rename_i c fs es
      split at e
      · rename_i b0 ef
        cases e
        obtain ⟨a, dx, vs, _, _, _, _, _, hf⟩ := I.obs j _ es
        obtain ⟨v, _, q, _, h2, h3⟩ := fs_get hf ef
        cases I.inj p q _ o h2 (by simp)
        refine ⟨_, _, rfl, h2, by simp, h3, fun o b' kk => ⟨{ st with S := st.S.set j (.ins c (putB f b' fs)) }, ?_, I.mutFd es h2 kk⟩⟩
        unfold setH
        dsimp only
        rw [es]
      · cases e
    · cases e
  | exc => cases e
  | tp b => cases e
/-- a method of a list that changes it: what it has behind it, what it gives -/
def PkMut (K : Frag) (r : V → List V → Hp → VK → Prop) (f : List D → List D → Option (List D × D)) : Prop := ∀ (W : Wd) (H : Hp) (p : Addr) (vs : List V) (xs : List D) (us : List V) (ys zs : List D) (d : D), Same W.F H → H p = some (.lst vs) → RepL K W.F W.ρ vs xs → RepL K W.F W.ρ us ys → f xs ys = some (zs, d) →
  ∃ ws v, RepL K W.F W.ρ ws zs ∧ Rep K W.F W.ρ v d ∧ ∀ Q : VK, Q v (upd H p (.lst ws)) → r (.ref p) us H Q
def mMut (f : List D → List D → Option (List D × D)) (ma : M EV) (mt : M (List EV)) : M EV := fun st => (ma st).bind fun a st1 => match ownB st1 a with
  | some (.lst _) => (mt st1).bind fun evs st2 => match ownB st2 a, dats evs with
    | some (.lst xs), some ys => match f xs ys with
      | some (zs, d) => match setH st2 a (.lst zs) with
        | some st3 => .ok (.dat d) st3
        | none => .stuck
      | none => .stuck
    | _, _ => .stuck
  | _ => .stuck
theorem BxOk.new {p : Addr} {vs : List V} {ds : List D} (r : RepL K W.F W.ρ vs ds) : BxOk K W (upd H p (.lst vs)) p (.lst ds) := ⟨vs, upd_same, r⟩
theorem sE_mut {r : V → List V → Hp → VK → Prop} {f : List D → List D → Option (List D × D)} {t : TA} {mt : M (List EV)} (hr : PkMut K r f) (ha : SimE K cl E ta ma) (ht : SimA K cl E t mt) : SimE K cl E (tBM K "list" r ta t) (mMut f ma mt) := by
  intro W σ H st I Q q
  refine ha W σ H st I _ (Res.imp (Res.bind q) fun a st1 W1 H1 hm1 I1 x1 q1 va ka => ?_)
  split at q1
  · rename_i xs0 e0
    obtain ⟨p, t0, rfl, _, _, ⟨vs0, h0, _⟩, _⟩ := own_mut I1 ka e0
    refine ⟨.inl ⟨rfl, vs0, SqL.of h0⟩, ht W1 σ H1 st1 I1 _ (Res.imp (Res.bind q1) fun evs st2 W2 H2 hm2 I2 x2 q2 us ks _ => ?_)⟩
    split at q2
    · rename_i xs ys e1 e2
      obtain ⟨p', t1, hp', ho, hn, ⟨vs, h1, r1⟩, hm⟩ := own_mut I2 (ka.ext x2) e1
      cases hp'
      split at q2
      · rename_i zs d e3
        obtain ⟨ws, v, rw1, rv, k⟩ := hr W2 H2 p vs xs us ys zs d I2.sub h1 r1 (dats_ok ks e2) e3
        obtain ⟨st3, e4, I3⟩ := hm (.lst ws) (.lst zs) (BxOk.new rw1)
        rw [e4] at q2
        exact k Q (q2 W2 _ I3 (Ext.mut ho hn (nofz h1 nofz_lst)) v rv)
      · exact q2.elim
    · exact q2.elim
  · exact q1.elim
def fAppend (xs ys : List D) : Option (List D × D) := match ys with
  | [y] => if xs.length < sizeLine then some (xs ++ [y], .non) else none
  | _ => none
theorem pk_append : PkMut K rAppend fAppend := by
  intro W H p vs xs us ys zs d s h r ru e
  unfold fAppend at e
  split at e
  · split at e
    · rename_i c
      cases e
      cases ru with
      | cons k t =>
        cases t
        exact ⟨_, _, r.append (.cons k .nil), .non, fun Q q => ⟨p, vs, _, rfl, rfl, h, by rw [r.len]; exact c, q⟩⟩
    · cases e
  · cases e
end
end Mi

set_option Elab.async false
set_option linter.all false
set_option maxRecDepth 100000
set_option maxHeartbeats 4000000
namespace Mi
open PySem PySem.Spec PyProof.Rows L2
section
variable {K : Frag} {cl : (Str → Addr) × Addr × Bool} {E : Kv.Er → L2.St → Hp → Prop} {W : Wd} {σ : L2.St} {H : Hp} {ta tb tc : TE} {ma mb mc : M EV}
/-! ### a slot is stored -/
def Wd.drop (W : Wd) (i : Nat) : Wd := { W with ow := fun q => if W.ow q = some (.sl i) then none else W.ow q }
theorem drop_ow {i : Nat} {q : Addr} {t : Tag} (h : W.ow q = some t) (n : t ≠ .sl i) : (W.drop i).ow q = some t := by
  show (if W.ow q = some (.sl i) then none else W.ow q) = some t
  rw [if_neg (by rw [h]; intro z; cases z; exact n rfl)]
  exact h
theorem drop_ow' {i : Nat} {q : Addr} {t : Tag} (h : (W.drop i).ow q = some t) : W.ow q = some t ∧ t ≠ .sl i := by
  have h : (if W.ow q = some (.sl i) then none else W.ow q) = some t := h
  split at h
  · cases h
  · rename_i c; exact ⟨h, fun z => c (by rw [h, z])⟩
theorem Ext.drop {i : Nat} : Ext W H (W.drop i) H :=
  ⟨Same.refl _, List.prefix_refl _, fun p t h n => drop_ow h (n i), fun _ _ h _ => h, fun p h => (drop_ow' h).1, fun p o _ h => by
    show (if W.ow p = some (.sl i) then none else W.ow p) = none
    rw [h]; rfl, fun _ h => h, fun _ _ _ _ f => f, rfl⟩
theorem set_get {α : Type} {l : List α} {i j : Nat} {x y : α} (h : (l.set i x)[j]? = some y) : (i = j ∧ y = x) ∨ (i ≠ j ∧ l[j]? = some y) := by
  by_cases c : i = j
  · subst c
    have hl : i < l.length := by
      have := (List.getElem?_eq_some_iff.mp h).1
      simpa using this
    rw [List.getElem?_set_self hl] at h
    exact .inl ⟨rfl, (Option.some.inj h).symm⟩
  · rw [get_set_ne c] at h
    exact .inr ⟨c, h⟩
theorem SlOk.sig {W : Wd} {σ σ' : L2.St} {i : Nat} {sv : SV} (e : σ'[i]? = σ[i]?) (h : SlOk K W σ H i sv) : SlOk K W σ' H i sv := by
  cases sv with
  | dat d => obtain ⟨v, q, r⟩ := h; exact ⟨v, e.trans q, r⟩
  | own b => obtain ⟨v, q, r⟩ := h; exact ⟨v, e.trans q, r⟩
  | io k => obtain ⟨v, q, r⟩ := h; exact ⟨v, e.trans q, r⟩
  | fl j f => obtain ⟨v, q, r⟩ := h; exact ⟨v, e.trans q, r⟩
  | exc => exact e.trans h
/-- slot i is given a value that is not its own -/
theorem Inv.put {st : St} {i : Nat} {v : V} {sv : SV} (I : Inv K cl W σ H st) (k : ∀ σ' : L2.St, σ'[i]? = some (some v) → SlOk K (W.drop i) σ' H i sv) : Inv K cl (W.drop i) (σ.set i (some v)) H { st with env := st.env.set i (some sv) } := by
  refine ⟨I.xeq, fun z p k h => I.nt z p k (drop_ow' h).1, I.sub, fun p t h => I.out p t (drop_ow' h).1, fun p q t h h' n => I.inj p q t (drop_ow' h).1 (drop_ow' h').1 n, by simp [I.len], fun j s' ej => ?_, fun k b e => ?_, I.rlen, fun j o e => ?_⟩
  · rcases set_get ej with ⟨rfl, z⟩ | ⟨c, e⟩
    · cases z
      refine k _ ?_
      have hl : i < σ.length := by
        rw [I.len]
        have := (List.getElem?_eq_some_iff.mp ej).1
        simpa using this
      rw [List.getElem?_set_self hl]
    · have := I.slots j s' e
      exact (this.kp (W := W) (W' := W.drop i) (Same.refl _) (List.prefix_refl _) (fun p t h n => drop_ow h (n i)) fun p h => ⟨rfl, drop_ow h (fun z => c (by cases z; rfl))⟩).sig (get_set_ne c)
  · obtain ⟨p, o, k2⟩ := I.ios k b e
    exact ⟨p, drop_ow o (by simp), k2.kp (Same.refl _) (List.prefix_refl _) rfl⟩
  · exact (I.obs j o e).kp (W := W) (W' := W.drop i) (Same.refl _) (List.prefix_refl _) fun p t h z => ⟨rfl, drop_ow h (by rcases z with z | z | ⟨f, z⟩ <;> simp [z])⟩
/-- .. a new thing for its own -/
def Wd.own (W : Wd) (i : Nat) (p : Addr) : Wd := { W with ow := fun q => if q = p then some (.sl i) else (W.drop i).ow q }
theorem Inv.putN {st : St} {i : Nat} {p : Addr} {b : BX} (I : Inv K cl W σ H st) (z1 : W.F p = none) (z2 : W.ow p = none) (k : BxOk K W H p b) : Inv K cl (W.own i p) (σ.set i (some (.ref p))) H { st with env := st.env.set i (some (.own b)) } := by
  have live : ∃ o, H p = some o := by
    cases b with
    | lst ds => obtain ⟨vs, e, _⟩ := k; exact ⟨_, e⟩
    | dct ds => obtain ⟨vs, e, _⟩ := k; exact ⟨_, e⟩
    | fz ds => obtain ⟨_, vs, e, _⟩ := k; exact ⟨_, e⟩
  have hne : ∀ q t, W.ow q = some t → q ≠ p := fun q t h c => by subst c; rw [z2] at h; cases h
  have up : ∀ q t, W.ow q = some t → t ≠ .sl i → (W.own i p).ow q = some t := fun q t h n => by
    show (if q = p then some (Tag.sl i) else (W.drop i).ow q) = some t
    rw [if_neg (hne q t h)]
    exact drop_ow h n
  have dn : ∀ q t, (W.own i p).ow q = some t → (q = p ∧ t = .sl i) ∨ (q ≠ p ∧ W.ow q = some t ∧ t ≠ .sl i) := fun q t h => by
    have h : (if q = p then some (Tag.sl i) else (W.drop i).ow q) = some t := h
    split at h
    · cases h; exact .inl ⟨‹_›, rfl⟩
    · exact .inr ⟨‹_›, drop_ow' h⟩
  refine ⟨I.xeq, fun z q k h => by
    rcases dn q _ h with ⟨_, e⟩ | ⟨_, e, _⟩
    · cases e
    · exact I.nt z q k e, I.sub, fun q t h => ?_, fun q q' t h h' n => ?_, by simp [I.len], fun j s' ej => ?_, fun k b e => ?_, I.rlen, fun j o e => ?_⟩
  · rcases dn q t h with ⟨rfl, _⟩ | ⟨_, h, _⟩
    · exact ⟨z1, live⟩
    · exact I.out q t h
  · rcases dn q t h with ⟨rfl, rfl⟩ | ⟨_, h, m⟩
    · rcases dn q' _ h' with ⟨rfl, _⟩ | ⟨_, _, m⟩
      · rfl
      · exact absurd rfl m
    · rcases dn q' t h' with ⟨rfl, z⟩ | ⟨_, h', _⟩
      · exact absurd z m
      · exact I.inj q q' t h h' n
  · rcases set_get ej with ⟨rfl, z⟩ | ⟨c, e⟩
    · cases z
      have hl : i < σ.length := by
        rw [I.len]
        have := (List.getElem?_eq_some_iff.mp ej).1
        simpa using this
      refine ⟨p, by rw [List.getElem?_set_self hl], ?_, k⟩
      show (if p = p then some (Tag.sl i) else (W.drop i).ow p) = some (.sl i)
      rw [if_pos rfl]
    · exact ((I.slots j s' e).kp (W := W) (W' := W.own i p) (Same.refl _) (List.prefix_refl _) (fun p t h n => up p t h (n i)) fun p h => ⟨rfl, up p _ h (fun z => c (by cases z; rfl))⟩).sig (get_set_ne c)
  · obtain ⟨q, o, k2⟩ := I.ios k b e
    exact ⟨q, up q _ o (by simp), k2.kp (Same.refl _) (List.prefix_refl _) rfl⟩
  · exact (I.obs j o e).kp (W := W) (W' := W.own i p) (Same.refl _) (List.prefix_refl _) fun q t h z => ⟨rfl, up q t h (by rcases z with z | z | ⟨f, z⟩ <;> simp [z])⟩
/-- over the whole evaluation: p was not there at its start -/
theorem Ext.putN {W0 : Wd} {H0 : Hp} {i : Nat} {p : Addr} {σ0 : L2.St} {st0 : St} (I0 : Inv K cl W0 σ0 H0 st0) (x : Ext W0 H0 W H) (n : H0 p = none) : Ext W0 H0 (W.own i p) H := by
  have hne : ∀ q o, H0 q = some o → q ≠ p := fun q o h c => by subst c; rw [n] at h; cases h
  refine ⟨x.sF, x.rr, fun q t h m => ?_, x.un, fun q h => ?_, fun q o h e => ?_, x.lv, x.fz, x.xa⟩
  · have := x.ow q t h m
    show (if q = p then some (Tag.sl i) else (W.drop i).ow q) = some t
    obtain ⟨_, o, e⟩ := I0.out q t h
    rw [if_neg (hne q o e)]
    exact drop_ow this (m i)
  · have h : (if q = p then some (Tag.sl i) else (W.drop i).ow q) = some .xt := h
    split at h
    · cases h
    · exact x.xt q (drop_ow' h).1
  · show (if q = p then some (Tag.sl i) else (W.drop i).ow q) = none
    rw [if_neg (hne q o h)]
    show (if W.ow q = some (.sl i) then none else W.ow q) = none
    rw [x.nw q o h e]; rfl
/-! ### statements -/
inductive Fl where
  | nx | ret (ev : EV) | brk | cont
def Frs (H : Hp) (v : V) (ev : EV) : Prop := ∀ b, ev = .tp b → ∃ p, v = .ref p ∧ H p = none
def ResS (K : Frag) (cl : (Str → Addr) × Addr × Bool) (E : Kv.Er → L2.St → Hp → Prop) (W : Wd) (H : Hp) (r : R Fl) (D : Ends) : Prop := match r with
  | .ok .nx st' => ∀ σ' W' H', Inv K cl W' σ' H' st' → Ext W H W' H' → D.nx σ' H'
  | .ok (.ret ev) st' => ∀ σ' W' H' v, Inv K cl W' σ' H' st' → Ext W H W' H' → EvOk K W' H' σ' v ev → Frs H v ev → D.rt v H'
  | .ok .brk st' => ∀ σ' W' H', Inv K cl W' σ' H' st' → Ext W H W' H' → D.bk σ' H'
  | .ok .cont st' => ∀ σ' W' H', Inv K cl W' σ' H' st' → Ext W H W' H' → D.ct σ' H'
  | .err e st' => ∀ σ' W' H', Inv K cl W' σ' H' st' → Ext W H W' H' → E e σ' H'
  | .stuck => False
theorem ResS.ext {W0 : Wd} {H0 : Hp} {r : R Fl} {D : Ends} (x : Ext W0 H0 W H) (h : ResS K cl E W0 H0 r D) : ResS K cl E W H r D := by
  cases r with
  | ok f st' =>
    cases f with
    | nx => exact fun σ' W' H' I y => h σ' W' H' I (x.trans y)
    | ret ev => exact fun σ' W' H' v I y k f => h σ' W' H' v I (x.trans y) k fun b e => by obtain ⟨p, e1, e2⟩ := f b e; exact ⟨p, e1, x.lv p e2⟩
    | brk => exact fun σ' W' H' I y => h σ' W' H' I (x.trans y)
    | cont => exact fun σ' W' H' I y => h σ' W' H' I (x.trans y)
  | err e st' => exact fun σ' W' H' I y => h σ' W' H' I (x.trans y)
  | stuck => exact h
def SimS (K : Frag) (cl : (Str → Addr) × Addr × Bool) (E : Kv.Er → L2.St → Hp → Prop) (ts : TS) (ms : M Fl) : Prop := ∀ W σ H st, Inv K cl W σ H st → ∀ D : Ends, ResS K cl E W H (ms st) D → ts D σ H
/-- an expression, then more -/
theorem ResS.bind {α : Type} {r : R α} {f : α → St → R Fl} {D : Ends} (h : ResS K cl E W H (r.bind f) D) : Res K cl E W σ H r fun a st1 W1 H1 => ResS K cl E W1 H1 (f a st1) D := by
  cases r with
  | ok a st1 => exact fun W1 H1 I1 x1 => ResS.ext x1 h
  | err e st1 => exact fun W' H' I x => h σ W' H' I x
  | stuck => exact h
def mNext : M Fl := M.pure .nx
theorem sS_next : SimS K cl E tNext mNext := fun W σ H st I D q => q σ W H I (Ext.refl W H)
def mBrk : M Fl := M.pure .brk
theorem sS_brk : SimS K cl E tBreak mBrk := fun W σ H st I D q => q σ W H I (Ext.refl W H)
def mCont : M Fl := M.pure .cont
theorem sS_cont : SimS K cl E tCont mCont := fun W σ H st I D q => q σ W H I (Ext.refl W H)
def mSeq (m1 m2 : M Fl) : M Fl := fun st => (m1 st).bind fun f st1 => match f with
  | .nx => m2 st1
  | f => .ok f st1
theorem sS_seq {t u : TS} {m1 m2 : M Fl} (h1 : SimS K cl E t m1) (h2 : SimS K cl E u m2) : SimS K cl E (tSeq t u) (mSeq m1 m2) := by
  intro W σ H st I D q
  refine h1 W σ H st I _ ?_
  unfold mSeq at q
  cases e : m1 st with
  | ok f st1 =>
    rw [e] at q
    cases f with
    | nx => exact fun σ' W' H' I' x => h2 W' σ' H' st1 I' D (ResS.ext x q)
    | ret ev => exact q
    | brk => exact q
    | cont => exact q
  | err e st1 => rw [e] at q; exact q
  | stuck => rw [e] at q; exact q
def mDrop (me : M EV) : M Fl := fun st => (me st).bind fun _ st1 => .ok .nx st1
theorem sS_drop {te : TE} {me : M EV} (h : SimE K cl E te me) : SimS K cl E (tDrop te) (mDrop me) := by
  intro W σ H st I D q
  exact h W σ H st I _ (Res.imp (ResS.bind q) fun ev st1 W1 H1 hm1 I1 x1 q1 v k => q1 σ W1 H1 I1 (Ext.refl _ _))
def mRet (me : M EV) : M Fl := fun st => (me st).bind fun ev st1 => if notTp ev = true then .ok (.ret ev) st1 else .stuck
theorem sS_ret {te : TE} {me : M EV} (h : SimE K cl E te me) : SimS K cl E (tRet te) (mRet me) := by
  intro W σ H st I D q
  refine h W σ H st I _ (Res.imp (ResS.bind q) fun ev st1 W1 H1 hm1 I1 x1 q1 v k => ?_)
  split at q1
  · rename_i n; exact q1 σ W1 H1 v I1 (Ext.refl _ _) k fun b e => by subst e; cases n
  · exact q1.elim
/-- a new list is handed back as such -/
def mRetX (mn : M BX) : M Fl := fun st => (mn st).bind fun b st1 => .ok (.ret (.tp b)) st1
theorem sS_retX {te : TE} {mn : M BX} (h : SimN K cl E te mn) : SimS K cl E (tRet te) (mRetX mn) := by
  intro W σ H st I D q
  have q' : Res K cl E W σ H (mn st) fun b st1 W1 H1 => ResS K cl E W H (.ok (.ret (.tp b)) st1) D := by
    unfold mRetX at q
    cases e : mn st with
    | ok b st1 => rw [e] at q; exact fun W1 H1 I1 x1 => q
    | err e' st1 => rw [e] at q; exact fun W' H' I' x' => q σ W' H' I' x'
    | stuck => rw [e] at q; exact q
  refine h W σ H st I _ (Res.imp q' fun b st1 W1 H1 hm1 I1 x1 q1 p hp z1 z2 k => ?_)
  exact q1 σ W1 H1 _ I1 x1 ⟨p, rfl, z1, z2, k⟩ fun b' _ => ⟨p, rfl, hp⟩
def mRetN : M Fl := M.pure (.ret (.dat .non))
theorem sS_retN : SimS K cl E tRetN mRetN := fun W σ H st I D q => q σ W H .non I (Ext.refl _ _) .non fun _ e => by cases e
def mIfS (mc : M Bool) (m1 m2 : M Fl) : M Fl := fun st => (mc st).bind fun b st1 => if b = true then m1 st1 else m2 st1
theorem sS_if {c : TT} {t u : TS} {mt : M Bool} {m1 m2 : M Fl} (hc : SimT K cl E c mt) (h1 : SimS K cl E t m1) (h2 : SimS K cl E u m2) : SimS K cl E (tIfS c t u) (mIfS mt m1 m2) := by
  intro W σ H st I D q
  refine hc W σ H st I _ (Res.imp (ResS.bind q) fun b st1 W1 H1 hm1 I1 x1 q1 => ?_)
  split at q1
  · rename_i c; rw [if_pos c]; exact h1 W1 σ H1 st1 I1 D q1
  · rename_i c; rw [if_neg c]; exact h2 W1 σ H1 st1 I1 D q1
/-! ### tests -/
def mB (ma : M EV) : M Bool := fun st => (ma st).bind fun a st1 => match a with
  | .dat (.bl b) => .ok b st1
  | _ => .stuck
theorem sT_B (h : SimE K cl E ta ma) : SimT K cl E (tB ta) (mB ma) := by
  intro W σ H st I Q q
  refine h W σ H st I _ (Res.imp (Res.bind q) fun a st1 W1 H1 hm1 I1 x1 q1 v k => ?_)
  split at q1
  · cases k; exact ⟨_, rfl, q1.now I1⟩
  · exact q1.elim
theorem sT_test (h : SimE K cl E ta ma) : SimT K cl E (tTest ta) (mB ma) := sT_B h
def mAnd (m1 m2 : M Bool) : M Bool := fun st => (m1 st).bind fun b st1 => if b = true then m2 st1 else .ok false st1
theorem sT_and {t u : TT} {m1 m2 : M Bool} (h1 : SimT K cl E t m1) (h2 : SimT K cl E u m2) : SimT K cl E (tAnd t u) (mAnd m1 m2) := by
  intro W σ H st I Q q
  refine h1 W σ H st I _ (Res.imp (Res.bind q) fun b st1 W1 H1 hm1 I1 x1 q1 => ?_)
  split at q1
  · rename_i c; rw [if_pos c]; exact h2 W1 σ H1 st1 I1 Q q1
  · rename_i c; rw [if_neg c]; exact q1.now I1
def mOr (m1 m2 : M Bool) : M Bool := fun st => (m1 st).bind fun b st1 => if b = true then .ok true st1 else m2 st1
theorem sT_or {t u : TT} {m1 m2 : M Bool} (h1 : SimT K cl E t m1) (h2 : SimT K cl E u m2) : SimT K cl E (tOr t u) (mOr m1 m2) := by
  intro W σ H st I Q q
  refine h1 W σ H st I _ (Res.imp (Res.bind q) fun b st1 W1 H1 hm1 I1 x1 q1 => ?_)
  split at q1
  · rename_i c; rw [if_pos c]; exact q1.now I1
  · rename_i c; rw [if_neg c]; exact h2 W1 σ H1 st1 I1 Q q1
def mNot (m1 : M Bool) : M Bool := fun st => (m1 st).bind fun b st1 => .ok (!b) st1
theorem sT_not {t : TT} {m1 : M Bool} (h1 : SimT K cl E t m1) : SimT K cl E (tNot t) (mNot m1) := by
  intro W σ H st I Q q
  exact h1 W σ H st I _ (Res.imp (Res.bind q) fun b st1 W1 H1 hm1 I1 x1 q1 => q1.now I1)
def mAndV (ma mb : M EV) : M EV := fun st => (ma st).bind fun a st1 => match a with
  | .dat (.bl b) => if b = true then mb st1 else .ok (.dat (.bl false)) st1
  | _ => .stuck
theorem sE_and (h1 : SimE K cl E ta ma) (h2 : SimE K cl E tb mb) : SimE K cl E (tAndV ta tb) (mAndV ma mb) := by
  intro W σ H st I Q q
  refine h1 W σ H st I _ (Res.imp (Res.bind q) fun a st1 W1 H1 hm1 I1 x1 q1 v k => ?_)
  split at q1
  · cases k
    refine ⟨_, rfl, ?_⟩
    split at q1
    · rename_i c; rw [if_pos c]; exact h2 W1 σ H1 st1 I1 Q q1
    · rename_i c; rw [if_neg c]; exact q1.now I1 _ (.bl _)
  · exact q1.elim
def mOrV (ma mb : M EV) : M EV := fun st => (ma st).bind fun a st1 => match a with
  | .dat (.bl b) => if b = true then .ok (.dat (.bl true)) st1 else mb st1
  | _ => .stuck
theorem sE_or (h1 : SimE K cl E ta ma) (h2 : SimE K cl E tb mb) : SimE K cl E (tOrV ta tb) (mOrV ma mb) := by
  intro W σ H st I Q q
  refine h1 W σ H st I _ (Res.imp (Res.bind q) fun a st1 W1 H1 hm1 I1 x1 q1 v k => ?_)
  split at q1
  · cases k
    refine ⟨_, rfl, ?_⟩
    split at q1
    · rename_i c; rw [if_pos c]; exact q1.now I1 _ (.bl _)
    · rename_i c; rw [if_neg c]; exact h2 W1 σ H1 st1 I1 Q q1
  · exact q1.elim
def mNotV (ma : M EV) : M EV := fun st => (ma st).bind fun a st1 => match a with
  | .dat (.bl b) => .ok (.dat (.bl (!b))) st1
  | _ => .stuck
theorem sE_not (h1 : SimE K cl E ta ma) : SimE K cl E (tNotV ta) (mNotV ma) := by
  intro W σ H st I Q q
  refine h1 W σ H st I _ (Res.imp (Res.bind q) fun a st1 W1 H1 hm1 I1 x1 q1 v k => ?_)
  split at q1
  · cases k; exact ⟨_, rfl, q1.now I1 _ (.bl _)⟩
  · exact q1.elim
def mIf (mt : M Bool) (ma mb : M EV) : M EV := fun st => (mt st).bind fun b st1 => if b = true then ma st1 else mb st1
theorem sE_if {t : TT} {mt : M Bool} (hc : SimT K cl E t mt) (h1 : SimE K cl E ta ma) (h2 : SimE K cl E tb mb) : SimE K cl E (tIf t ta tb) (mIf mt ma mb) := by
  intro W σ H st I Q q
  refine hc W σ H st I _ (Res.imp (Res.bind q) fun b st1 W1 H1 hm1 I1 x1 q1 => ?_)
  split at q1
  · rename_i c; rw [if_pos c]; exact h1 W1 σ H1 st1 I1 Q q1
  · rename_i c; rw [if_neg c]; exact h2 W1 σ H1 st1 I1 Q q1
end
end Mi

set_option Elab.async false
set_option linter.all false
set_option maxRecDepth 100000
set_option maxHeartbeats 4000000
namespace Mi
open PySem PySem.Spec PyProof.Rows L2
section
variable {K : Frag} {cl : (Str → Addr) × Addr × Bool} {E : Kv.Er → L2.St → Hp → Prop} {W : Wd} {σ : L2.St} {H : Hp} {ta tb tc : TE} {ma mb mc : M EV}
/-! ### targets -/
theorem wipe_get (σ : L2.St) : ∀ (vs : List Nat) (j : Nat), (wipe σ vs)[j]? = if j ∈ vs then (σ[j]?).map (fun _ => none) else σ[j]?
  | [], j => by simp [wipe]
  | v :: vs, j => by
    have ih := wipe_get σ vs j
    unfold wipe
    by_cases c : v = j
    · subst c
      by_cases h : v < (wipe σ vs).length
      · rw [List.getElem?_set_self h, if_pos List.mem_cons_self]
        have : v < σ.length := by rw [wipe_length] at h; exact h
        rw [List.getElem?_eq_getElem this]; rfl
      · have h2 : ¬ v < σ.length := by rw [wipe_length] at h; exact h
        rw [List.getElem?_eq_none (by simpa using h), if_pos List.mem_cons_self, List.getElem?_eq_none (by omega)]; rfl
    · rw [get_set_ne c, ih]
      have : (j ∈ v :: vs) ↔ j ∈ vs := by simp [Ne.symm c]
      by_cases m : j ∈ vs
      · rw [if_pos m, if_pos (this.mpr m)]
      · rw [if_neg m, if_neg (fun z => m (this.mp z))]
theorem wipe_ext {σ σ' : L2.St} {vs : List Nat} (hl : σ'.length = σ.length) (h : ∀ j, j ∉ vs → σ'[j]? = σ[j]?) : wipe σ' vs = wipe σ vs := by
  refine List.ext_getElem? fun j => ?_
  rw [wipe_get, wipe_get]
  by_cases m : j ∈ vs
  · rw [if_pos m, if_pos m]
    by_cases c : j < σ.length
    · rw [List.getElem?_eq_getElem c, List.getElem?_eq_getElem (by omega)]; rfl
    · rw [List.getElem?_eq_none (by omega), List.getElem?_eq_none (by omega)]
  · rw [if_neg m, if_neg m, h j m]
theorem wipe_set {σ : L2.St} {vs : List Nat} {i : Nat} {x : Option V} (h : i ∈ vs) : wipe (σ.set i x) vs = wipe σ vs :=
  wipe_ext (by simp) fun j m => get_set_ne fun z => m (z ▸ h)
theorem wipe_idem {σ : L2.St} {vs : List Nat} : wipe (wipe σ vs) vs = wipe σ vs :=
  wipe_ext (wipe_length _ _) fun j m => by rw [wipe_get, if_neg m]
def ResG (K : Frag) (cl : (Str → Addr) × Addr × Bool) (E : Kv.Er → L2.St → Hp → Prop) (W : Wd) (σ : L2.St) (H : Hp) (vs : List Nat) (r : R Unit) (Q : L2.St → Hp → Prop) : Prop := match r with
  | .ok _ st' => ∀ σ' W' H', Inv K cl W' σ' H' st' → Ext W H W' H' → wipe σ' vs = wipe σ vs → Q σ' H'
  | .err e st' => ∀ σ' W' H', Inv K cl W' σ' H' st' → Ext W H W' H' → E e σ' H'
  | .stuck => False
def SimG (K : Frag) (cl : (Str → Addr) × Addr × Bool) (E : Kv.Er → L2.St → Hp → Prop) (vs : List Nat) (g : TG) (mg : EV → M Unit) : Prop := ∀ W σ H st v ev, Inv K cl W σ H st → EvOk K W H σ v ev → ∀ Q : L2.St → Hp → Prop, ResG K cl E W σ H vs (mg ev st) Q → g v σ H Q
def SimGs (K : Frag) (cl : (Str → Addr) × Addr × Bool) (E : Kv.Er → L2.St → Hp → Prop) (vs : List Nat) (g : TGs) (mg : List D → M Unit) : Prop := ∀ W σ H st us ds, Inv K cl W σ H st → RepL K W.F W.ρ us ds → ∀ Q : L2.St → Hp → Prop, ResG K cl E W σ H vs (mg ds st) Q → g us σ H Q
theorem ResG.bind {vs : List Nat} {r : R Unit} {f : St → R Unit} {Q : L2.St → Hp → Prop} (h : ResG K cl E W σ H vs (r.bind fun _ st1 => f st1) Q) : ResG K cl E W σ H vs r fun σ1 H1 => ∀ W1 st1, r = .ok () st1 → Inv K cl W1 σ1 H1 st1 → Ext W H W1 H1 → wipe σ1 vs = wipe σ vs → ResG K cl E W1 σ1 H1 vs (f st1) Q := by
  cases r with
  | ok a st1 =>
    intro σ1 W1 H1 I1 x1 w1 W1' st1' e I1' x1' w1'
    cases e
    have h : ResG K cl E W σ H vs (f st1) Q := h
    revert h
    cases f st1 with
    | ok b st2 => exact fun h σ2 W2 H2 I2 x2 w2 => h σ2 W2 H2 I2 (x1'.trans x2) (w2.trans w1')
    | err e st2 => exact fun h σ2 W2 H2 I2 x2 => h σ2 W2 H2 I2 (x1'.trans x2)
    | stuck => exact fun h => h
  | err e st1 => exact h
  | stuck => exact h
def setD (i : Nat) (sv : SV) : M Unit := fun st => .ok () { st with env := st.env.set i (some sv) }
/-- a value to slot i -/
def mgName (i : Nat) (ev : EV) : M Unit := match ev with
  | .io k => setD i (.io k)
  | .fl j f => setD i (.fl j f)
  | ev => fun st => (toD ev st).bind fun d st1 => setD i (.dat d) st1
theorem put_dat {st : St} {i : Nat} {v : V} {d : D} (I : Inv K cl W σ H st) (r : Rep K W.F W.ρ v d) : Inv K cl (W.drop i) (σ.set i (some v)) H { st with env := st.env.set i (some (.dat d)) } := I.put fun σ' h => ⟨v, h, r⟩
theorem sG_name {vs : List Nat} {i : Nat} (hi : i ∈ vs) : SimG K cl E vs (gName i) (mgName i) := by
  intro W σ H st v ev I k Q q
  have main : ∀ (ev : EV), EvOk K W H σ v ev → ResG K cl E W σ H vs (((toD ev st).bind fun d st1 => setD i (.dat d) st1)) Q → Q (σ.set i (some v)) H := by
    intro ev k q
    have q' : Res K cl (fun e σ' H' => E e σ' H') W σ H (toD ev st) fun d st1 W1 H1 => ResG K cl E W1 σ H1 vs (setD i (.dat d) st1) Q := by
      cases e : toD ev st with
      | ok d st1 =>
        rw [e] at q
        intro W1 H1 I1 x1
        exact fun σ2 W2 H2 I2 x2 w2 => q σ2 W2 H2 I2 (x1.trans x2) w2
      | err e' st1 => rw [e] at q; exact fun W' H' I' x' => q σ W' H' I' x'
      | stuck => rw [e] at q; exact q
    obtain ⟨d, st1, W1, I1, x1, r, q1⟩ := toD_ok I k q'
    exact q1 _ (W1.drop i) H (put_dat I1 r) Ext.drop (wipe_set hi)
  cases ev with
  | dat d => exact main _ k q
  | sl j => exact main _ k q
  | io j =>
    obtain ⟨p, rfl, o⟩ := k
    exact q _ (W.drop i) H (I.put fun σ' h => ⟨p, h, drop_ow o (by simp)⟩) Ext.drop (wipe_set hi)
  | fl j f =>
    obtain ⟨p, rfl, o⟩ := k
    exact q _ (W.drop i) H (I.put fun σ' h => ⟨p, h, drop_ow o (by simp)⟩) Ext.drop (wipe_set hi)
  | exc => exact main _ k q
  | tp b => exact main _ k q
def mgNil : List D → M Unit
  | [] => M.pure ()
  | _ => M.stuck
theorem sGs_nil {vs : List Nat} : SimGs K cl E vs gNil mgNil := by
  intro W σ H st us ds I r Q q
  cases r with
  | nil => exact ⟨rfl, q σ W H I (Ext.refl _ _) rfl⟩
  | cons _ _ => exact q.elim
def mgCons (mg : EV → M Unit) (ms : List D → M Unit) : List D → M Unit
  | d :: r => fun st => (mg (.dat d) st).bind fun _ st1 => ms r st1
  | [] => M.stuck
theorem sGs_cons {vs : List Nat} {g : TG} {gs : TGs} {mg : EV → M Unit} {ms : List D → M Unit} (h : SimG K cl E vs g mg) (hr : SimGs K cl E vs gs ms) : SimGs K cl E vs (gCons g gs) (mgCons mg ms) := by
  intro W σ H st us ds I r Q q
  cases r with
  | nil => exact q.elim
  | cons k t =>
    refine ⟨_, _, rfl, h W σ H st _ (.dat _) I k _ ?_⟩
    have q2 := ResG.bind q
    cases e : mg (.dat _) st with
    | ok a st1 =>
      rw [e] at q2
      exact fun σ1 W1 H1 I1 x1 w1 => hr W1 σ1 H1 st1 _ _ I1 (t.ext x1) Q (q2 σ1 W1 H1 I1 x1 w1 W1 st1 rfl I1 x1 w1)
    | err e' st1 => rw [e] at q2; exact q2
    | stuck => rw [e] at q2; exact q2
def mgTup (n : Nat) (ms : List D → M Unit) : EV → M Unit
  | .dat (.tup ds) => if ds.length = n then ms ds else M.stuck
  | _ => M.stuck
theorem sG_tup {vs : List Nat} {n : Nat} {gs : TGs} {ms : List D → M Unit} (h : SimGs K cl E vs gs ms) : SimG K cl E vs (gTup K n gs) (mgTup n ms) := by
  intro W σ H st v ev I k Q q
  unfold mgTup at q
  split at q
  · rename_i ds
    cases k with
    | tup ht r =>
      split at q
      · rename_i hn
        exact ⟨_, _, rfl, Kv.same_tup I.sub ht, by rw [r.len]; exact hn, h W σ H st _ _ I r Q q⟩
      · exact q.elim
  · exact q.elim
def mAsg (me : M EV) (mg : EV → M Unit) : M Fl := fun st => (me st).bind fun ev st1 => (mg ev st1).bind fun _ st2 => .ok .nx st2
theorem sS_asg {vs : List Nat} {te : TE} {g : TG} {me : M EV} {mg : EV → M Unit} (h : SimE K cl E te me) (hg : SimG K cl E vs g mg) : SimS K cl E (tAsg te g) (mAsg me mg) := by
  intro W σ H st I D q
  refine h W σ H st I _ (Res.imp (ResS.bind q) fun ev st1 W1 H1 hm1 I1 x1 q1 v k => ?_)
  refine hg W1 σ H1 st1 v ev I1 k _ ?_
  cases e : mg ev st1 with
  | ok a st2 => rw [e] at q1; exact fun σ2 W2 H2 I2 x2 _ => q1 σ2 W2 H2 I2 x2
  | err e' st2 => rw [e] at q1; exact q1
  | stuck => rw [e] at q1; exact q1
/-- a new list to a slot of its own -/
def mAsgN (i : Nat) (mn : M BX) : M Fl := fun st => (mn st).bind fun b st1 => .ok .nx { st1 with env := st1.env.set i (some (.own b)) }
theorem sS_asgN {i : Nat} {te : TE} {mn : M BX} (h : SimN K cl E te mn) : SimS K cl E (tAsg te (gName i)) (mAsgN i mn) := by
  intro W σ H st I D q
  have q' : Res K cl E W σ H (mn st) fun b st1 W1 H1 => ResS K cl E W H (.ok .nx { st1 with env := st1.env.set i (some (.own b)) }) D := by
    unfold mAsgN at q
    cases e : mn st with
    | ok b st1 => rw [e] at q; exact fun W1 H1 I1 x1 => q
    | err e' st1 => rw [e] at q; exact fun W' H' I' x' => q σ W' H' I' x'
    | stuck => rw [e] at q; exact q
  refine h W σ H st I _ (Res.imp q' fun b st1 W1 H1 hm1 I1 x1 q1 p hp z1 z2 k => ?_)
  exact q1 _ (W1.own i p) H1 (I1.putN z1 z2 k) (Ext.putN I x1 hp)
/-- xs[i] = .. -/
def mgSub (mo mi : M EV) (ev : EV) : M Unit := match ev with
  | .dat d => fun st => (mo st).bind fun o st1 => (mi st1).bind fun i st2 => match ownB st2 o, i with
    | some (.lst xs), .dat (.int k) => match ixN xs.length k with
      | some j => match setH st2 o (.lst (xs.set j d)) with
        | some st3 => .ok () st3
        | none => .stuck
      | none => .stuck
    | _, _ => .stuck
  | _ => M.stuck
theorem sG_sub {vs : List Nat} {to ti : TE} {mo mi : M EV} (ho : SimE K cl E to mo) (hi : SimE K cl E ti mi) : SimG K cl E vs (gSub to ti rSetL) (mgSub mo mi) := by
  intro W σ H st v ev I k Q q
  cases ev with
  | dat d =>
    have q : ResG K cl E W σ H vs ((mo st).bind fun o st1 => (mi st1).bind fun i st2 => match ownB st2 o, i with
    | some (.lst xs), .dat (.int k) => match ixN xs.length k with
      | some j => match setH st2 o (.lst (xs.set j d)) with
        | some st3 => .ok () st3
        | none => .stuck
      | none => .stuck
    | _, _ => .stuck) Q := q
    have b1 : ∀ {α : Type} {W0 : Wd} {H0 : Hp} {r : R α} {f : α → St → R Unit}, ResG K cl E W0 σ H0 vs (r.bind f) Q → Res K cl E W0 σ H0 r fun a st1 W1 H1 => ResG K cl E W1 σ H1 vs (f a st1) Q := by
      intro α W0 H0 r f h
      cases r with
      | ok a st1 =>
        intro W1 H1 I1 x1
        have h : ResG K cl E W0 σ H0 vs (f a st1) Q := h
        revert h
        cases f a st1 with
        | ok b st2 => exact fun h σ2 W2 H2 I2 x2 w2 => h σ2 W2 H2 I2 (x1.trans x2) w2
        | err e st2 => exact fun h σ2 W2 H2 I2 x2 => h σ2 W2 H2 I2 (x1.trans x2)
        | stuck => exact fun h => h
      | err e st1 => exact fun W' H' I' x' => h σ W' H' I' x'
      | stuck => exact h
    refine ho W σ H st I _ (Res.imp (b1 q) fun o st1 W1 H1 hm1 I1 x1 q1 vo ko => ?_)
    refine hi W1 σ H1 st1 I1 _ (Res.imp (b1 q1) fun i st2 W2 H2 hm2 I2 x2 q2 vi ki => ?_)
    split at q2
    · rename_i xs kk e1
      split at q2
      · rename_i j ej
        obtain ⟨p, t, rfl, ho', hn, ⟨us, h1, r1⟩, hm⟩ := own_mut I2 (ko.ext x2) e1
        cases ki
        have rv : Rep K W2.F W2.ρ v d := Rep.ext (x1.trans x2) k
        obtain ⟨st3, e4, I3⟩ := hm (.lst (us.set j v)) (.lst (xs.set j d)) (BxOk.new (RepL.set rv j r1))
        rw [e4] at q2
        exact ⟨p, us, _, j, rfl, rfl, h1, by rw [r1.len]; exact ej, q2 σ W2 _ I3 (Ext.mut ho' hn (nofz h1 nofz_lst)) rfl⟩
      · exact q2.elim
    · exact q2.elim
  | sl _ => exact q.elim
  | io _ => exact q.elim
  | fl _ _ => exact q.elim
  | exc => exact q.elim
  | tp _ => exact q.elim
/-- x op= e -/
def mAug (i : Nat) (f : D → D → Option D) (me : M EV) : M Fl := fun st => match st.env[i]? with
  | some (some (.dat x)) => (me st).bind fun ev st1 => match peek st1 ev with
    | some y => match f x y with
      | some d => .ok .nx { st1 with env := st1.env.set i (some (.dat d)) }
      | none => .stuck
    | none => .stuck
  | _ => .stuck
theorem sS_aug {i : Nat} {te : TE} {ti : TIp} {f : D → D → Option D} {me : M EV} (hr : PkOp K ti f) (h : SimE K cl E te me) : SimS K cl E (tAug i te ti) (mAug i f me) := by
  intro W σ H st I D q
  unfold mAug at q
  split at q
  · rename_i x ex
    obtain ⟨vx, hx, rx⟩ := I.slots i _ ex
    refine ⟨vx, hx, h W σ H st I _ (Res.imp (ResS.bind q) fun ev st1 W1 H1 hm1 I1 x1 q1 v k => ?_)⟩
    split at q1
    · rename_i y ey
      split at q1
      · rename_i d e
        obtain ⟨w, rv, kk⟩ := hr W1 H1 vx v x y d I1.sub (PkOk.of I1.sub (rx.ext x1)) (peek_ok I1 k ey) e
        exact kk (fun z H2 => D.nx (σ.set i (some z)) H2) (q1 _ _ H1 (put_dat I1 rv) Ext.drop)
      · exact q1.elim
    · exact q1.elim
  · exact q.elim
theorem pk_ipI {g : Int → Int → Int} : PkOp K (ipI g) (iOp (fun _ _ => True) fun i j => .int (g i j)) := PkOp.sc fun x y d e => by
  obtain ⟨i, j, rfl, rfl, c, rfl⟩ := iOp_of e
  exact ⟨_, _, _, rfl, rfl, rfl, fun H Q q => ⟨i, j, rfl, rfl, q⟩⟩
/-! ### truth -/
def truD : D → Option Bool
  | .non => some false
  | .bl b => some b
  | .int i => some (i != 0)
  | .str y => if y.length ≤ sizeLine then some ((y.length : Int) != 0) else none
  | .lst ds => some (!ds.isEmpty)
  | .tup ds => some (!ds.isEmpty)
  | _ => none
def mTru (ma : M EV) : M Bool := fun st => (ma st).bind fun a st1 => match peek st1 a with
  | some d => match truD d with
    | some b => .ok b st1
    | none => .stuck
  | none => .stuck
theorem repL_empty {F : Hp} {ρ : List Addr} {vs : List V} {ds : List D} (r : RepL K F ρ vs ds) : vs.isEmpty = ds.isEmpty := by cases r <;> rfl
theorem sT_tru (h : SimE K cl E ta ma) : SimT K cl E (fun σ H Q => ta σ H fun x H' => ∃ k, TruV K x H' k ∧ Q k H') (mTru ma) := by
  intro W σ H st I Q q
  refine h W σ H st I _ (Res.imp (Res.bind q) fun a st1 W1 H1 hm1 I1 x1 q1 v k => ?_)
  split at q1
  · rename_i d e
    split at q1
    · rename_i b eb
      refine ⟨b, ?_, q1.now I1⟩
      have kk := peek_ok I1 k e
      unfold truD at eb
      split at eb
      · cases eb; cases kk; rfl
      · cases eb; cases kk; rfl
      · cases eb; cases kk; rfl
      · split at eb
        · rename_i c; cases eb; cases kk; exact ⟨c, rfl⟩
        · cases eb
      · cases eb
        obtain ⟨p, vs, rfl, hq, r⟩ := kk
        exact .inl ⟨vs, hq, by rw [repL_empty r]⟩
      · cases eb
        cases kk with
        | tup ht r => exact .inr (.inl ⟨_, Kv.same_tup I1.sub ht, by rw [repL_empty r]⟩)
      · cases eb
    · exact q1.elim
  · exact q1.elim
/-- a op b op' c -/
def mChain (f g : D → D → Option D) (ma mb mc : M EV) : M EV := fun st => (ma st).bind fun a st1 => (mb st1).bind fun b st2 => match peek st2 a, peek st2 b with
  | some x, some y => match f x y with
    | some (.bl k) => if k = true then (mc st2).bind fun c st3 => match peek st3 b, peek st3 c with
        | some y, some z => match g y z with
          | some d => .ok (.dat d) st3
          | none => .stuck
        | _, _ => .stuck
      else .ok (.dat (.bl false)) st2
    | _ => .stuck
  | _, _ => .stuck
theorem sE_chain {r r' : R2} {f g : D → D → Option D} (hr : PkOp K r f) (hr' : PkOp K r' g) (ha : SimE K cl E ta ma) (hb : SimE K cl E tb mb) (hc : SimE K cl E tc mc) : SimE K cl E (tChain r r' ta tb tc) (mChain f g ma mb mc) := by
  intro W σ H st I Q q
  refine ha W σ H st I _ (Res.imp (Res.bind q) fun a st1 W1 H1 hm1 I1 x1 q1 va ka => ?_)
  refine hb W1 σ H1 st1 I1 _ (Res.imp (Res.bind q1) fun b st2 W2 H2 hm2 I2 x2 q2 vb kb => ?_)
  replace ka := ka.ext x2
  split at q2
  · rename_i x y ex ey
    split at q2
    · rename_i k e
      obtain ⟨v, rv, kk⟩ := hr W2 H2 va vb x y (.bl k) I2.sub (peek_ok I2 ka ex) (peek_ok I2 kb ey) e
      cases rv
      refine kk _ ⟨k, rfl, ?_⟩
      split at q2
      · rename_i ck
        rw [if_pos ck]
        refine hc W2 σ H2 st2 I2 _ (Res.imp (Res.bind q2) fun c st3 W3 H3 hm3 I3 x3 q3 vc kc => ?_)
        split at q3
        · rename_i y' z ey' ez
          split at q3
          · rename_i d e'
            obtain ⟨w, rw', kk'⟩ := hr' W3 H3 vb vc y' z d I3.sub (peek_ok I3 (kb.ext x3) ey') (peek_ok I3 kc ez) e'
            exact kk' Q (q3.now I3 w rw')
          · exact q3.elim
        · exact q3.elim
      · rename_i ck
        rw [if_neg ck]
        exact q2.now I2 _ (.bl false)
    · exact q2.elim
  · exact q2.elim
end
end Mi

set_option Elab.async false
set_option linter.all false
set_option maxRecDepth 100000
set_option maxHeartbeats 4000000
namespace Mi
open PySem PySem.Spec PyProof.Rows L2
section
variable {K : Frag} {cl : (Str → Addr) × Addr × Bool} {E : Kv.Er → L2.St → Hp → Prop} {W : Wd} {σ : L2.St} {H : Hp} {ta tb tc : TE} {ma mb mc : M EV}
/-! ### what is walked -/
structure Itr where
  ds : List D
  chk : St → Prop
structure GY (K : Frag) (cl : (Str → Addr) × Addr × Bool) (W : Wd) (H : Hp) (it : Itr) (G : Hp → Prop) (Y : Nat → Hp → V → Hp → Prop) : Prop where
  g : ∀ W2 σ2 H2 st2, Inv K cl W2 σ2 H2 st2 → Ext W H W2 H2 → it.chk st2 → G H2
  y : ∀ i d W2 σ2 H2 st2 x H3, it.ds[i]? = some d → Inv K cl W2 σ2 H2 st2 → Ext W H W2 H2 → it.chk st2 → Y i H2 x H3 → ∃ W3, Inv K cl W3 σ2 H3 st2 ∧ Ext W2 H2 W3 H3 ∧ Rep K W3.F W3.ρ x d
def SimI (K : Frag) (cl : (Str → Addr) × Addr × Bool) (E : Kv.Er → L2.St → Hp → Prop) (wi : TI) (mi : M Itr) : Prop := ∀ W σ H st, Inv K cl W σ H st → ∀ R : It → Hp → Prop,
  Res K cl E W σ H (mi st) (fun it st' W' H' => ∀ J G Y, Walk J it.ds.length G Y → GY K cl W' H' it G Y → R J H') → wi σ H R
/-- what is read of a handle stays read while it is the same -/
def isSl : EV → Bool
  | .sl _ => true
  | .tp _ => true
  | _ => false
theorem EvOk.any {σ σ' : L2.St} {v : V} {ev : EV} (n : isSl ev = false) (k : EvOk K W H σ v ev) : EvOk K W H σ' v ev := by
  cases ev with
  | sl i => cases n
  | tp i => cases n
  | dat d => exact k
  | io i => exact k
  | fl j f => exact k
  | exc => exact k
/-- a list: its items, as long as they stay -/
def mIList (ma : M EV) : M Itr := fun st => (ma st).bind fun a st1 => if isSl a = true then .stuck else match peek st1 a with
  | some (.lst ds) => .ok ⟨ds, fun st2 => peek st2 a = some (.lst ds)⟩ st1
  | _ => .stuck
theorem sI_list (ha : SimE K cl E ta ma) : SimI K cl E (iList K ta) (mIList ma) := by
  intro W σ H st I R q
  refine ha W σ H st I _ (Res.imp (Res.bind q) fun a st1 W1 H1 hm1 I1 x1 q1 v k => ?_)
  split at q1
  · exact q1.elim
  rename_i ns
  replace ns : isSl a = false := by simpa using ns
  split at q1
  · rename_i ds e
    obtain ⟨p, vs, rfl, hq, r⟩ := peek_ok I1 k e
    refine ⟨p, rfl, ⟨vs, hq⟩, ?_⟩
    have rd : ∀ {W2 : Wd} {σ2 : L2.St} {H2 : Hp} {st2 : St}, Inv K cl W2 σ2 H2 st2 → Ext W1 H1 W2 H2 → peek st2 a = some (.lst ds) → ∃ us, SqL K H2 p us ∧ RepL K W2.F W2.ρ us ds := by
      intro W2 σ2 H2 st2 I2 x2 c
      obtain ⟨p2, us, e2, h2, r2⟩ := peek_ok I2 ((k.any (σ' := σ2) ns).ext x2) c
      cases e2
      exact ⟨us, h2, r2⟩
    refine q1.now I1 (Itl K p) (fun H2 => ∃ us, SqL K H2 p us ∧ us.length = ds.length) (fun i H2 x H3 => H3 = H2 ∧ ∀ us, SqL K H2 p us → us[i]? = some x) ⟨?_, ?_, ?_⟩ ⟨?_, ?_⟩
    · rintro i H2 hi ⟨us, h, hl⟩
      exact (walk_list (K := K) (a := p) (xs := us)).goes i H2 (hl.symm ▸ hi) h
    · rintro H2 ⟨us, h, hl⟩
      rw [← hl]
      exact (walk_list (K := K) (a := p) (xs := us)).stops H2 h
    · exact fun i H2 x H3 hi _ y => y
    · intro W2 σ2 H2 st2 I2 x2 c
      obtain ⟨us, h, r2⟩ := rd I2 x2 c
      exact ⟨us, h, r2.len⟩
    · rintro i d W2 σ2 H2 st2 x H3 ed I2 x2 c ⟨rfl, ex⟩
      obtain ⟨us, h, r2⟩ := rd I2 x2 c
      obtain ⟨w, ew, rw'⟩ := r2.get ed
      rw [ex us h] at ew
      cases ew
      exact ⟨W2, I2, Ext.refl _ _, rw'⟩
  · exact q1.elim

/-- a tuple -/
def mITup (ma : M EV) : M Itr := fun st => (ma st).bind fun a st1 => match a with
  | .dat (.tup ds) => .ok ⟨ds, fun _ => True⟩ st1
  | _ => .stuck
theorem sI_tup (ha : SimE K cl E ta ma) : SimI K cl E (iTup K ta) (mITup ma) := by
  intro W σ H st I R q
  refine ha W σ H st I _ (Res.imp (Res.bind q) fun a st1 W1 H1 hm1 I1 x1 q1 v k => ?_)
  split at q1
  · rename_i ds
    cases k with
    | @tup p vs _ ht r =>
    have hq := Kv.same_tup I1.sub ht
    refine ⟨p, rfl, ⟨vs, hq⟩, ?_⟩
    refine q1.now I1 (Itt K p) (fun H2 => ∃ us, SqT K H2 p us ∧ us.length = ds.length) (fun i H2 x H3 => H3 = H2 ∧ ∀ us, SqT K H2 p us → us[i]? = some x) ⟨?_, ?_, ?_⟩ ⟨?_, ?_⟩
    · rintro i H2 hi ⟨us, h, hl⟩
      exact (walk_tup (K := K) (a := p) (xs := us)).goes i H2 (hl.symm ▸ hi) h
    · rintro H2 ⟨us, h, hl⟩
      rw [← hl]
      exact (walk_tup (K := K) (a := p) (xs := us)).stops H2 h
    · exact fun i H2 x H3 hi _ y => y
    · intro W2 σ2 H2 st2 I2 x2 c
      exact ⟨vs, Kv.same_tup (x2.sF.trans I2.sub) ht, r.len⟩
    · rintro i d W2 σ2 H2 st2 x H3 ed I2 x2 c ⟨rfl, ex⟩
      obtain ⟨w, ew, rw'⟩ := r.get ed
      rw [ex vs (Kv.same_tup (x2.sF.trans I2.sub) ht)] at ew
      cases ew
      exact ⟨W2, I2, Ext.refl _ _, rw'.ext x2⟩
  · exact q1.elim
/-- a text, sign by sign -/
def mIStr (ma : M EV) : M Itr := fun st => (ma st).bind fun a st1 => match a with
  | .dat (.str z) => .ok ⟨z.cps.toList.map fun c => .str ⟨#[c]⟩, fun _ => True⟩ st1
  | _ => .stuck
theorem sI_str (ha : SimE K cl E ta ma) : SimI K cl E (iStr ta) (mIStr ma) := by
  intro W σ H st I R q
  refine ha W σ H st I _ (Res.imp (Res.bind q) fun a st1 W1 H1 hm1 I1 x1 q1 v k => ?_)
  split at q1
  · rename_i z
    cases k
    refine ⟨z, rfl, q1.now I1 (Its z) (fun _ => True) (fun i H2 x H3 => H3 = H2 ∧ ∃ c, z.cps[i]? = some c ∧ x = .str ⟨#[c]⟩) ?_ ⟨fun _ _ _ _ _ _ _ => trivial, ?_⟩⟩
    · have : (z.cps.toList.map fun c => D.str ⟨#[c]⟩).length = z.cps.size := by simp
      show Walk _ (z.cps.toList.map fun c => D.str ⟨#[c]⟩).length _ _
      rw [this]
      exact walk_str
    · rintro i d W2 σ2 H2 st2 x H3 ed I2 x2 c ⟨rfl, u, eu, rfl⟩
      have ed : (z.cps.toList.map fun c => D.str ⟨#[c]⟩)[i]? = some d := ed
      rw [List.getElem?_map, Array.getElem?_toList, eu] at ed
      cases ed
      exact ⟨W2, I2, Ext.refl _ _, .str _⟩
  · exact q1.elim
/-- range -/
def rngD (lo : Int) (n : Nat) : List D := (List.range n).map fun (i : Nat) => .int (lo + i)
theorem gy_rng {lo : Int} {n : Nat} : GY K cl W H ⟨rngD lo n, fun _ => True⟩ (fun _ => True) (YFn fun i => .int (lo + i)) := by
  refine ⟨fun _ _ _ _ _ _ _ => trivial, ?_⟩
  rintro i d W2 σ2 H2 st2 x H3 ed I2 x2 c ⟨rfl, rfl⟩
  have ed : (rngD lo n)[i]? = some d := ed
  unfold rngD at ed
  rw [List.getElem?_map] at ed
  have hi : i < n := by
    by_cases h : i < n
    · exact h
    · rw [List.getElem?_eq_none (by simpa using h)] at ed; cases ed
  rw [List.getElem?_range hi] at ed
  cases ed
  exact ⟨W2, I2, Ext.refl _ _, .int _⟩
def mIRng1 (ma : M (List EV)) : M Itr := fun st => (ma st).bind fun a st1 => match a with
  | [.dat (.int j)] => if -(2 ^ 62) ≤ j ∧ j < 2 ^ 62 then .ok ⟨rngD 0 j.toNat, fun _ => True⟩ st1 else .stuck
  | _ => .stuck
theorem sI_rng1 {t : TA} {mt : M (List EV)} (ha : SimA K cl E t mt) : SimI K cl E (iRng1 t) (mIRng1 mt) := by
  intro W σ H st I R q
  refine ha W σ H st I _ (Res.imp (Res.bind q) fun a st1 W1 H1 hm1 I1 x1 q1 v k fro => ?_)
  split at q1
  · rename_i j
    cases k with
    | cons k1 t1 =>
      cases t1
      cases k1
      split at q1
      · rename_i c
        refine ⟨j, rfl, c.1, c.2, q1.now I1 _ (fun _ => True) (YFn fun i => .int (0 + i)) ?_ gy_rng⟩
        have : (rngD 0 j.toNat).length = j.toNat := by simp [rngD]
        show Walk _ (rngD 0 j.toNat).length _ _
        rw [this]
        exact walk_range
      · exact q1.elim
  · exact q1.elim
def mIRng2 (ma : M (List EV)) : M Itr := fun st => (ma st).bind fun a st1 => match a with
  | [.dat (.int i), .dat (.int j)] => if -(2 ^ 62) ≤ i ∧ i < 2 ^ 62 ∧ -(2 ^ 62) ≤ j ∧ j < 2 ^ 62 then .ok ⟨rngD i (j - i).toNat, fun _ => True⟩ st1 else .stuck
  | _ => .stuck
theorem sI_rng2 {t : TA} {mt : M (List EV)} (ha : SimA K cl E t mt) : SimI K cl E (iRng2 t) (mIRng2 mt) := by
  intro W σ H st I R q
  refine ha W σ H st I _ (Res.imp (Res.bind q) fun a st1 W1 H1 hm1 I1 x1 q1 v k fro => ?_)
  split at q1
  · rename_i i j
    cases k with
    | cons k1 t1 =>
      cases t1 with
      | cons k2 t2 =>
      cases t2
      cases k1
      cases k2
      split at q1
      · rename_i c
        refine ⟨i, j, rfl, c, q1.now I1 _ (fun _ => True) (YFn fun k => .int (i + k)) ?_ gy_rng⟩
        have : (rngD i (j - i).toNat).length = (j - i).toNat := by simp [rngD]
        show Walk _ (rngD i (j - i).toNat).length _ _
        rw [this]
        exact walk_range
      · exact q1.elim
  · exact q1.elim
/-- enumerate of a list -/
def enumD (k : Nat) : List D → List D
  | [] => []
  | d :: r => .tup [.int k, d] :: enumD (k + 1) r
theorem enumD_len : ∀ (ds : List D) (k : Nat), (enumD k ds).length = ds.length
  | [], _ => rfl
  | d :: r, k => by unfold enumD; rw [List.length_cons, enumD_len r, List.length_cons]
theorem enumD_get : ∀ (ds : List D) (k i : Nat) (d : D), (enumD k ds)[i]? = some d → ∃ x, ds[i]? = some x ∧ d = .tup [.int ((k + i : Nat) : Int), x]
  | [], k, i, d, h => by simp [enumD] at h
  | x :: r, k, 0, d, h => by unfold enumD at h; cases h; exact ⟨x, rfl, rfl⟩
  | x :: r, k, i + 1, d, h => by
    unfold enumD at h
    obtain ⟨y, e1, e2⟩ := enumD_get r (k + 1) i d h
    exact ⟨y, e1, by rw [e2, show k + 1 + i = k + (i + 1) by omega]⟩
def mIEnum (ma : M (List EV)) : M Itr := fun st => (ma st).bind fun as st1 => match as with
  | [a] => if isSl a = true then .stuck else match peek st1 a with
    | some (.lst ds) => .ok ⟨enumD 0 ds, fun st2 => peek st2 a = some (.lst ds)⟩ st1
    | _ => .stuck
  | _ => .stuck
theorem sI_enum {t : TA} {mt : M (List EV)} (ha : SimA K cl E t mt) : SimI K cl E (iEnum K t) (mIEnum mt) := by
  intro W σ H st I R q
  refine ha W σ H st I _ (Res.imp (Res.bind q) fun as st1 W1 H1 hm1 I1 x1 q1 v k fro => ?_)
  split at q1
  · rename_i a
    cases k with
    | cons k t1 =>
    cases t1
    split at q1
    · exact q1.elim
    rename_i ns
    replace ns : isSl a = false := by simpa using ns
    split at q1
    · rename_i ds e
      obtain ⟨p, vs, rfl, hq, r⟩ := peek_ok I1 k e
      refine ⟨p, vs, rfl, hq, ?_⟩
      have rd : ∀ {W2 : Wd} {σ2 : L2.St} {H2 : Hp} {st2 : St}, Inv K cl W2 σ2 H2 st2 → Ext W1 H1 W2 H2 → peek st2 a = some (.lst ds) → ∃ us, SqL K H2 p us ∧ RepL K W2.F W2.ρ us ds := by
        intro W2 σ2 H2 st2 I2 x2 c
        obtain ⟨p2, us, e2, h2, r2⟩ := peek_ok I2 ((k.any (σ' := σ2) ns).ext x2) c
        cases e2
        exact ⟨us, h2, r2⟩
      refine q1.now I1 (Ite K p) (fun H2 => ∃ us, SqL K H2 p us ∧ us.length = ds.length) (fun i H2 v H3 => ∃ T x, v = .ref T ∧ H2 T = none ∧ H3 = upd H2 T (.tup [.int (i : Nat), x]) ∧ ∀ xs, SqL K H2 p xs → xs[i]? = some x) ⟨?_, ?_, ?_⟩ ⟨?_, ?_⟩
      · rintro i H2 hi ⟨us, h, hl⟩
        have hi : i < (enumD 0 ds).length := hi
        rw [enumD_len] at hi
        exact (walk_enum (K := K) (a := p) (xs := us)).goes i H2 (hl.symm ▸ hi) h
      · rintro H2 ⟨us, h, hl⟩
        have : (enumD 0 ds).length = us.length := by rw [enumD_len, hl]
        show (Ite K p).stop (enumD 0 ds).length H2
        rw [this]
        exact (walk_enum (K := K) (a := p) (xs := us)).stops H2 h
      · exact fun i H2 x H3 hi _ y => y
      · intro W2 σ2 H2 st2 I2 x2 c
        obtain ⟨us, h, r2⟩ := rd I2 x2 c
        exact ⟨us, h, r2.len⟩
      · rintro i d W2 σ2 H2 st2 x H3 ed I2 x2 c ⟨T, y, rfl, hT, rfl, ex⟩
        obtain ⟨us, h, r2⟩ := rd I2 x2 c
        obtain ⟨z, ez, rfl⟩ := enumD_get ds 0 i d ed
        obtain ⟨w, ew, rw'⟩ := r2.get ez
        rw [ex us h] at ew
        cases ew
        refine ⟨_, I2.new hT, Ext.new I2 hT, .tup (SqT.of upd_same) (.cons ?_ (.cons (rw'.mono (Kv.same_upd (I2.free hT).2) (List.prefix_refl _)) .nil))⟩
        rw [Nat.zero_add]
        exact .int _
    · exact q1.elim
  · exact q1.elim
def zipD : List D → List D → List D
  | x :: xs, y :: ys => .tup [x, y] :: zipD xs ys
  | _, _ => []
theorem zipD_len : ∀ xs ys : List D, (zipD xs ys).length = min xs.length ys.length
  | [], _ => by simp [zipD]
  | _ :: _, [] => by simp [zipD]
  | x :: xs, y :: ys => by unfold zipD; rw [List.length_cons, zipD_len xs ys, List.length_cons, List.length_cons]; omega
theorem zipD_get : ∀ (xs ys : List D) (i : Nat) (d : D), (zipD xs ys)[i]? = some d → ∃ x y, xs[i]? = some x ∧ ys[i]? = some y ∧ d = .tup [x, y]
  | [], _, i, d, h => by simp [zipD] at h
  | _ :: _, [], i, d, h => by simp [zipD] at h
  | x :: xs, y :: ys, 0, d, h => by unfold zipD at h; cases h; exact ⟨x, y, rfl, rfl, rfl⟩
  | x :: xs, y :: ys, i + 1, d, h => by unfold zipD at h; exact zipD_get xs ys i d h
def mIZip (ma : M (List EV)) : M Itr := fun st => (ma st).bind fun as st1 => match as with
  | [a, b] => if isSl a = true ∨ isSl b = true then .stuck else match peek st1 a, peek st1 b with
    | some (.lst xs), some (.lst ys) => .ok ⟨zipD xs ys, fun st2 => peek st2 a = some (.lst xs) ∧ peek st2 b = some (.lst ys)⟩ st1
    | _, _ => .stuck
  | _ => .stuck
theorem sI_zip {t : TA} {mt : M (List EV)} (ha : SimA K cl E t mt) : SimI K cl E (iZip K t) (mIZip mt) := by
  intro W σ H st I R q
  refine ha W σ H st I _ (Res.imp (Res.bind q) fun as st1 W1 H1 hm1 I1 x1 q1 v k fro => ?_)
  split at q1
  · rename_i a b
    cases k with
    | cons k1 t1 =>
    cases t1 with
    | cons k2 t2 =>
    cases t2
    split at q1
    · exact q1.elim
    rename_i ns
    have n1 : isSl a = false := by simpa using fun z => ns (.inl z)
    have n2 : isSl b = false := by simpa using fun z => ns (.inr z)
    split at q1
    · rename_i xs ys e1 e2
      obtain ⟨p, vs, rfl, hq, r⟩ := peek_ok I1 k1 e1
      obtain ⟨p2, vs2, rfl, hq2, r2⟩ := peek_ok I1 k2 e2
      refine ⟨p, p2, vs, vs2, rfl, hq, hq2, ?_⟩
      have rd : ∀ {W2 : Wd} {σ2 : L2.St} {H2 : Hp} {st2 : St}, Inv K cl W2 σ2 H2 st2 → Ext W1 H1 W2 H2 → (peek st2 a = some (.lst xs) ∧ peek st2 b = some (.lst ys)) → ∃ us ws, SqL K H2 p us ∧ RepL K W2.F W2.ρ us xs ∧ SqL K H2 p2 ws ∧ RepL K W2.F W2.ρ ws ys := by
        intro W2 σ2 H2 st2 I2 x2 c
        obtain ⟨p', us, e2, h2, r2⟩ := peek_ok I2 ((k1.any (σ' := σ2) n1).ext x2) c.1
        obtain ⟨p'', ws, e3, h3, r3⟩ := peek_ok I2 ((k2.any (σ' := σ2) n2).ext x2) c.2
        cases e2
        cases e3
        exact ⟨us, ws, h2, r2, h3, r3⟩
      refine q1.now I1 (Itz K p p2) (fun H2 => ∃ us ws, SqL K H2 p us ∧ us.length = xs.length ∧ SqL K H2 p2 ws ∧ ws.length = ys.length) (fun i H2 v H3 => ∃ T x y, v = .ref T ∧ H2 T = none ∧ H3 = upd H2 T (.tup [x, y]) ∧ (∀ us, SqL K H2 p us → us[i]? = some x) ∧ ∀ ws, SqL K H2 p2 ws → ws[i]? = some y) ⟨?_, ?_, ?_⟩ ⟨?_, ?_⟩
      · rintro i H2 hi ⟨us, ws, h, hl, h', hl'⟩
        have hi : i < (zipD xs ys).length := hi
        rw [zipD_len, ← hl, ← hl'] at hi
        exact (walk_zip (K := K) (a := p) (b := p2) (xs := us) (ys := ws) rfl).goes i H2 hi ⟨h, h'⟩
      · rintro H2 ⟨us, ws, h, hl, h', hl'⟩
        have : (zipD xs ys).length = min us.length ws.length := by rw [zipD_len, hl, hl']
        show (Itz K p p2).stop (zipD xs ys).length H2
        rw [this]
        exact (walk_zip (K := K) (a := p) (b := p2) (xs := us) (ys := ws) rfl).stops H2 ⟨h, h'⟩
      · exact fun i H2 x H3 hi _ y => y
      · intro W2 σ2 H2 st2 I2 x2 c
        obtain ⟨us, ws, h, r3, h', r4⟩ := rd I2 x2 c
        exact ⟨us, ws, h, r3.len, h', r4.len⟩
      · rintro i d W2 σ2 H2 st2 x H3 ed I2 x2 c ⟨T, x', y', rfl, hT, rfl, ex, ey⟩
        obtain ⟨us, ws, h, r3, h', r4⟩ := rd I2 x2 c
        obtain ⟨z, z', ez, ez', rfl⟩ := zipD_get xs ys i d ed
        obtain ⟨w, ew, rw'⟩ := r3.get ez
        obtain ⟨w2, ew2, rw2⟩ := r4.get ez'
        rw [ex us h] at ew
        rw [ey ws h'] at ew2
        cases ew
        cases ew2
        have s := Kv.same_upd (o := .tup [x', y']) (I2.free hT).2
        exact ⟨_, I2.new hT, Ext.new I2 hT, .tup (SqT.of upd_same) (.cons (rw'.mono s (List.prefix_refl _)) (.cons (rw2.mono s (List.prefix_refl _)) .nil))⟩
    · exact q1.elim
  · exact q1.elim
/-! ### for -/
open Classical in
noncomputable def forL (chk : St → Prop) (mg : EV → M Unit) (mb : M Fl) : List D → M Fl
  | [], st => if chk st then .ok .nx st else .stuck
  | d :: r, st => if chk st then (mg (.dat d) st).bind fun _ st1 => (mb st1).bind fun f st2 => match f with
      | .nx => forL chk mg mb r st2
      | .cont => forL chk mg mb r st2
      | .brk => .ok .nx st2
      | .ret ev => .ok (.ret ev) st2
    else .stuck
noncomputable def mFor (mi : M Itr) (mg : EV → M Unit) (mb : M Fl) : M Fl := fun st => (mi st).bind fun it st1 => forL it.chk mg mb it.ds st1
theorem forL_chk {chk : St → Prop} {mg : EV → M Unit} {mb : M Fl} {ds : List D} {st : St} {D : Ends} (h : ResS K cl E W H (forL chk mg mb ds st) D) : chk st := by
  cases ds with
  | nil =>
    unfold forL at h
    split at h
    · assumption
    · exact h.elim
  | cons d r =>
    unfold forL at h
    split at h
    · assumption
    · exact h.elim
theorem sS_for {vs : List Nat} {wi : TI} {g : TG} {tb : TS} {mi : M Itr} {mg : EV → M Unit} {mb : M Fl} (hi : SimI K cl E wi mi) (hg : SimG K cl E vs g mg) (hb : SimS K cl E tb mb) : SimS K cl E (tFor wi g tb) (mFor mi mg mb) := by
  intro W σ H st I D q
  rw [Kv.tFor_eq]
  refine hi W σ H st I _ (Res.imp (ResS.bind q) fun it st1 W1 H1 hm1 I1 x1 q1 J G Y w gy => ?_)
  refine Kv.for_go w (fun i σ' H' => ∃ W' st', Inv K cl W' σ' H' st' ∧ Ext W1 H1 W' H' ∧ ResS K cl E W' H' (forL it.chk mg mb (it.ds.drop i) st') D) ⟨W1, st1, I1, Ext.refl _ _, q1⟩ ?_ ?_ ?_
  · rintro i σ' H' hi' ⟨W', st', I', x', q'⟩
    exact gy.g W' σ' H' st' I' x' (forL_chk q')
  · rintro i x σ' H' H2 hi' ⟨W', st', I', x', q'⟩ y
    have hc := forL_chk q'
    have ed : it.ds[i]? = some it.ds[i] := List.getElem?_eq_getElem hi'
    obtain ⟨W3, I3, x3, r3⟩ := gy.y i _ W' σ' H' st' x H2 ed I' x' hc y
    rw [List.drop_eq_getElem_cons hi'] at q'
    unfold forL at q'
    rw [if_pos hc] at q'
    replace q' := ResS.ext x3 q'
    refine hg W3 σ' H2 st' x (.dat it.ds[i]) I3 r3 _ ?_
    cases e : mg (.dat it.ds[i]) st' with
    | ok a st4 =>
      rw [e] at q'
      intro σ4 W4 H4 I4 x4 _
      refine hb W4 σ4 H4 st4 I4 _ ?_
      have q4 := ResS.ext x4 q'
      have q4 : ResS K cl E W4 H4 ((mb st4).bind fun f st2 => match f with
        | .nx => forL it.chk mg mb (it.ds.drop (i + 1)) st2
        | .cont => forL it.chk mg mb (it.ds.drop (i + 1)) st2
        | .brk => .ok .nx st2
        | .ret ev => .ok (.ret ev) st2) D := q4
      cases e5 : mb st4 with
      | ok f st5 =>
        rw [e5] at q4
        cases f with
        | nx => exact fun σ5 W5 H5 I5 x5 => ⟨W5, st5, I5, ((x'.trans x3).trans x4).trans x5, ResS.ext x5 q4⟩
        | cont => exact fun σ5 W5 H5 I5 x5 => ⟨W5, st5, I5, ((x'.trans x3).trans x4).trans x5, ResS.ext x5 q4⟩
        | brk => exact q4
        | ret ev => exact q4
      | err e' st5 => rw [e5] at q4; exact q4
      | stuck => rw [e5] at q4; exact q4
    | err e' st4 => rw [e] at q'; exact q'
    | stuck => rw [e] at q'; exact q'
  · rintro σ' H' ⟨W', st', I', x', q'⟩
    rw [List.drop_length] at q'
    unfold forL at q'
    split at q'
    · exact q' σ' W' H' I' (Ext.refl _ _)
    · exact q'.elim
/-! ### while -/
def whL (mc : M Bool) (mb : M Fl) : Nat → M Fl
  | 0, _ => .stuck
  | n + 1, st => (mc st).bind fun b st1 => if b = true then (mb st1).bind fun f st2 => match f with
      | .nx => whL mc mb n st2
      | .cont => whL mc mb n st2
      | .brk => .ok .nx st2
      | .ret ev => .ok (.ret ev) st2
    else .ok .nx st1
theorem sS_while {c : TT} {tb : TS} {mt : M Bool} {mb : M Fl} (n : Nat) (hc : SimT K cl E c mt) (hb : SimS K cl E tb mb) : SimS K cl E (tWhile c tb) (whL mt mb n) := by
  intro W σ H st I D q
  refine ⟨fun m σ' H' => ∃ W' st', Inv K cl W' σ' H' st' ∧ ResS K cl E W' H' (whL mt mb m st') D, ⟨n, W, st, I, q⟩, ?_⟩
  rintro m σ' H' ⟨W', st', I', q'⟩
  cases m with
  | zero => exact q'.elim
  | succ m =>
    refine hc W' σ' H' st' I' _ (Res.imp (ResS.bind q') fun b st1 W1 H1 hm1 I1 x1 q1 => ?_)
    split at q1
    · rename_i cb
      rw [if_pos cb]
      refine ⟨fun σ2 H2 => ∃ W2 st2, Inv K cl W2 σ2 H2 st2 ∧ ResS K cl E W2 H2 (whL mt mb m st2) D, fun σ2 H2 h => ⟨m, by omega, h⟩, hb W1 σ' H1 st1 I1 _ ?_⟩
      cases e5 : mb st1 with
      | ok f st5 =>
        rw [e5] at q1
        cases f with
        | nx => exact fun σ5 W5 H5 I5 x5 => ⟨W5, st5, I5, ResS.ext x5 q1⟩
        | cont => exact fun σ5 W5 H5 I5 x5 => ⟨W5, st5, I5, ResS.ext x5 q1⟩
        | brk => exact q1
        | ret ev => exact q1
      | err e' st5 => rw [e5] at q1; exact q1
      | stuck => rw [e5] at q1; exact q1
    · rename_i cb
      rw [if_neg cb]
      exact q1 σ' W1 H1 I1 (Ext.refl _ _)
end
end Mi

set_option Elab.async false
set_option linter.all false
set_option maxRecDepth 100000
set_option maxHeartbeats 4000000
namespace Mi
open PySem PySem.Spec PyProof.Rows L2
section
variable {K : Frag} {cl : (Str → Addr) × Addr × Bool} {E : Kv.Er → L2.St → Hp → Prop} {W : Wd} {σ : L2.St} {H : Hp} {ta tb tc : TE} {ma mb mc : M EV}
abbrev EF : Kv.Er → L2.St → Hp → Prop := fun _ _ _ => False
/-! ### comprehensions -/
def wipeE (env : List (Option SV)) : List Nat → List (Option SV)
  | [] => env
  | v :: vs => (wipeE env vs).set v none
theorem wipeE_len (env : List (Option SV)) : ∀ vs, (wipeE env vs).length = env.length
  | [] => rfl
  | v :: vs => by unfold wipeE; rw [List.length_set, wipeE_len env vs]
theorem wipeE_get (env : List (Option SV)) : ∀ (vs : List Nat) (j : Nat), (wipeE env vs)[j]? = if j ∈ vs then (env[j]?).map (fun _ => none) else env[j]?
  | [], j => by simp [wipeE]
  | v :: vs, j => by
    have ih := wipeE_get env vs j
    unfold wipeE
    by_cases c : v = j
    · subst c
      by_cases h : v < (wipeE env vs).length
      · rw [List.getElem?_set_self h, if_pos List.mem_cons_self]
        have : v < env.length := by rw [wipeE_len] at h; exact h
        rw [List.getElem?_eq_getElem this]; rfl
      · have h2 : ¬ v < env.length := by rw [wipeE_len] at h; exact h
        rw [List.getElem?_eq_none (by simpa using h), if_pos List.mem_cons_self, List.getElem?_eq_none (by omega)]; rfl
    · rw [get_set_ne c, ih]
      have : (j ∈ v :: vs) ↔ j ∈ vs := by simp [Ne.symm c]
      by_cases m : j ∈ vs
      · rw [if_pos m, if_pos (this.mpr m)]
      · rw [if_neg m, if_neg (fun z => m (this.mp z))]
theorem wipeE_some {env : List (Option SV)} {vs : List Nat} {j : Nat} {sv : SV} (h : (wipeE env vs)[j]? = some (some sv)) : j ∉ vs ∧ env[j]? = some (some sv) := by
  rw [wipeE_get] at h
  split at h
  · cases e : env[j]? with
    | none => rw [e] at h; cases h
    | some x => rw [e] at h; cases h
  · exact ⟨‹_›, h⟩
def St.wiped (st : St) (vs : List Nat) : St := { st with env := wipeE st.env vs }
/-- other slots, where what is told stays told -/
theorem Inv.slot {st : St} {σ' : L2.St} {env' : List (Option SV)} (I : Inv K cl W σ H st) (hl : σ'.length = env'.length) (k : ∀ i sv, env'[i]? = some (some sv) → SlOk K W σ' H i sv) : Inv K cl W σ' H { st with env := env' } :=
  ⟨I.xeq, I.nt, I.sub, I.out, I.inj, hl, k, I.ios, I.rlen, I.obs⟩
theorem Inv.wipe {st : St} {σ' : L2.St} {vs : List Nat} (I : Inv K cl W σ' H st) (e : L2.wipe σ' vs = L2.wipe σ vs) : Inv K cl W (L2.wipe σ vs) H (st.wiped vs) := by
  refine I.slot (by rw [wipe_length, wipeE_len, ← I.len]; have := congrArg List.length e; rw [wipe_length, wipe_length] at this; exact this.symm) fun i sv h => ?_
  obtain ⟨m, h⟩ := wipeE_some h
  refine (I.slots i sv h).sig ?_
  rw [← e, wipe_get, if_neg m]
/-- the comprehension's own names are as before -/
def restE (e0 : List (Option SV)) (env : List (Option SV)) : List Nat → List (Option SV)
  | [] => env
  | v :: vs => (restE e0 env vs).set v (match e0[v]? with
    | some (some (.own _)) => none
    | some x => x
    | none => none)
theorem restE_len (e0 env : List (Option SV)) : ∀ vs, (restE e0 env vs).length = env.length
  | [] => rfl
  | v :: vs => by unfold restE; rw [List.length_set, restE_len e0 env vs]
theorem restE_some {e0 env : List (Option SV)} : ∀ {vs : List Nat} {j : Nat} {sv : SV}, (restE e0 env vs)[j]? = some (some sv) → (j ∈ vs ∧ e0[j]? = some (some sv) ∧ ∀ b, sv ≠ .own b) ∨ (j ∉ vs ∧ env[j]? = some (some sv))
  | [], j, sv, h => .inr ⟨by simp, h⟩
  | v :: vs, j, sv, h => by
    unfold restE at h
    rcases set_get h with ⟨rfl, z⟩ | ⟨c, z⟩
    · refine .inl ⟨List.mem_cons_self, ?_⟩
      split at z
      · cases z
      · rename_i x n e
        subst z
        exact ⟨e, fun b z => n b (by rw [z])⟩
      · cases z
    · rcases restE_some z with ⟨m, r⟩ | ⟨m, r⟩
      · exact .inl ⟨List.mem_cons_of_mem _ m, r⟩
      · exact .inr ⟨by simp [Ne.symm c, m], r⟩
def lcL (vs : List Nat) (chk : St → Prop) (mg : EV → M Unit) (mt : M Bool) (me : M EV) [∀ st, Decidable (chk st)] : List D → List D → M (List D)
  | [], acc, st => if chk (st.wiped vs) then .ok acc st else .stuck
  | d :: r, acc, st => if chk (st.wiped vs) then (mg (.dat d) (st.wiped vs)).bind fun _ st1 => (mt st1).bind fun b st2 =>
      if b = true then (me st2).bind fun ev st3 => (toD ev st3).bind fun x st4 => if acc.length < sizeLine then lcL vs chk mg mt me r (acc ++ [x]) st4 else .stuck
      else lcL vs chk mg mt me r acc st2
    else .stuck
open Classical in
noncomputable def mLc (vs : List Nat) (mi : M Itr) (mg : EV → M Unit) (mt : M Bool) (me : M EV) : M BX := fun st => (mi st).bind fun it st1 => match lcL vs it.chk mg mt me it.ds [] st1 with
  | .ok ds st2 => .ok (.lst ds) { st2 with env := restE st1.env st2.env vs }
  | _ => .stuck
/-- a list on the way, nobody's -/
theorem Inv.tmp {st : St} {p : Addr} {o : HO} (I : Inv K cl W σ H st) (z1 : W.F p = none) (z2 : W.ow p = none) : Inv K cl W σ (upd H p o) st := by
  have hne : ∀ q t, W.ow q = some t → upd H p o q = H q := fun q t e => upd_ne fun c => by subst c; rw [z2] at e; cases e
  refine ⟨I.xeq, I.nt, sub_upd I.sub z1, out_upd I, I.inj, I.len, fun j sv ej => (I.slots j sv ej).kp (Same.refl _) (List.prefix_refl _) (fun _ _ h _ => h) fun q h => ⟨hne q _ h, h⟩, fun k b e => ?_, I.rlen, fun j o e => (I.obs j o e).kp (Same.refl _) (List.prefix_refl _) fun q t h _ => ⟨hne q t h, h⟩⟩
  obtain ⟨q, h, k2⟩ := I.ios k b e
  exact ⟨q, h, k2.kp (Same.refl _) (List.prefix_refl _) (hne q _ h)⟩
theorem Ext.tmp {W1 : Wd} {H1 : Hp} {p : Addr} {o : HO} (x : Ext W H W1 H1) (n : H p = none) : Ext W H W1 (upd H1 p o) := by
  refine ⟨x.sF, x.rr, x.ow, fun q u h e => ?_, x.xt, x.nw, fun q h => ?_, x.fz, x.xa⟩
  · rw [upd_ne (ne_of_none h n)]; exact x.un q u h e
  · by_cases c : q = p
    · subst c; exact n
    · rw [upd_ne c] at h; exact x.lv q h
theorem sN_lc {vs : List Nat} {wi : TI} {g : TG} {tt : TT} {te : TE} {mi : M Itr} {mg : EV → M Unit} {mt : M Bool} {me : M EV} (hi : SimI K cl E wi mi) (hg : SimG K cl EF vs g mg) (ht : SimT K cl EF tt mt) (he : SimE K cl EF te me) : SimN K cl E (tLc wi g tt te vs) (mLc vs mi mg mt me) := by
  intro W σ H st I Q q
  rw [Kv.tLc_eq]
  refine hi W σ H st I _ (Res.imp (Res.bind q) fun it st1 W1 H1 hm1 I1 x1 q1 J G Y w gy => ?_)
  intro L hL
  obtain ⟨z1, z2⟩ := I1.free hL
  let inst : ∀ st, Decidable (it.chk st) := fun st => Classical.propDecidable _
  let Fin : List D → St → Prop := fun ds st2 => ∀ W' H' us, Inv K cl W' (wipe σ vs) H' (st2.wiped vs) → Ext W1 H1 W' H' → W'.ow L = none → W'.F L = none → H' L = some (.lst us) → RepL K W'.F W'.ρ us ds → Q (.ref L) H'
  let RL : R (List D) → Prop := fun r => match r with
    | .ok ds st2 => Fin ds st2
    | _ => False
  have q2 : RL (@lcL vs it.chk mg mt me inst it.ds [] st1) := by
    have e0 : (fun st => Classical.propDecidable (it.chk st)) = inst := rfl
    cases e : @lcL vs it.chk mg mt me inst it.ds [] st1 with
    | ok ds st2 =>
      rw [e] at q1
      intro W' H' us I' x' o1 o2 eL r
      refine q1 W' H' ?_ x' L (x1.lv L hL) o2 o1 ⟨us, eL, r⟩
      refine Inv.slot (st := st2.wiped vs) I' ?_ fun i sv h => ?_
      · rw [restE_len, ← wipeE_len st2.env vs]
        have := I'.len
        rw [wipe_length] at this
        exact this
      · rcases restE_some h with ⟨m, h, n⟩ | ⟨m, h⟩
        · have k := I1.slots i sv h
          cases sv with
          | own b => exact absurd rfl (n b)
          | dat d => obtain ⟨v, e, r⟩ := k; exact ⟨v, e, r.ext x'⟩
          | io j => obtain ⟨v, e, r⟩ := k; exact ⟨v, e, x'.ow v _ r (by simp)⟩
          | fl j f => obtain ⟨v, e, r⟩ := k; exact ⟨v, e, x'.ow v _ r (by simp)⟩
          | exc => exact (show σ[i]? = some (some (.ref W1.xa.1)) from k).trans (by rw [x'.xa])
        · refine (I'.slots i sv ?_).sig ?_
          · show (wipeE st2.env vs)[i]? = _
            rw [wipeE_get, if_neg m]; exact h
          · rw [wipe_get, if_neg m]
    | err e' st2 => rw [e] at q1; exact q1.elim
    | stuck => rw [e] at q1; exact q1.elim
  refine lc_it w (Pv := fun i H' => ∃ W' st' acc us, Inv K cl W' (wipe σ vs) H' (st'.wiped vs) ∧ Ext W1 H1 W' H' ∧ W'.ow L = none ∧ W'.F L = none ∧ H' L = some (.lst us) ∧ RepL K W'.F W'.ρ us acc ∧ RL (@lcL vs it.chk mg mt me inst (it.ds.drop i) acc st')) ?_ ?_ ?_ ?_
  · exact ⟨W1, st1, [], [], (I1.new0 hL).wipe rfl, Ext.new0 hL, z1, z2, upd_same, .nil, q2⟩
  · rintro i H' hi' ⟨W', st', acc, us, I', x', o1, o2, eL, r, q'⟩
    refine gy.g W' _ H' _ I' x' ?_
    cases hd : it.ds.drop i with
    | nil =>
      rw [hd] at q'
      unfold lcL at q'
      split at q'
      · assumption
      · exact q'.elim
    | cons d t =>
      rw [hd] at q'
      unfold lcL at q'
      split at q'
      · assumption
      · exact q'.elim
  · rintro i x H' H2 hi' ⟨W', st', acc, us, I', x', o1, o2, eL, r, q'⟩ y
    have ed : it.ds[i]? = some it.ds[i] := List.getElem?_eq_getElem hi'
    rw [List.drop_eq_getElem_cons hi'] at q'
    unfold lcL at q'
    split at q'
    rotate_left
    · exact q'.elim
    rename_i hc
    obtain ⟨W3, I3, x3, r3⟩ := gy.y i _ W' _ H' _ x H2 ed I' x' hc y
    refine hg W3 (wipe σ vs) H2 _ x (.dat it.ds[i]) I3 r3 _ ?_
    cases e : mg (.dat it.ds[i]) (st'.wiped vs) with
    | err e' st4 => rw [e] at q'; exact q'.elim
    | stuck => rw [e] at q'; exact q'.elim
    | ok a st4 =>
    rw [e] at q'
    intro σ4 W4 H4 I4 x4 w4
    rw [wipe_idem] at w4
    refine ⟨w4, ht W4 σ4 H4 st4 I4 _ ?_⟩
    have q' : RL ((mt st4).bind fun b st2 => if b = true then (me st2).bind fun ev st3 => (toD ev st3).bind fun x st4 => if acc.length < sizeLine then @lcL vs it.chk mg mt me inst (it.ds.drop (i + 1)) (acc ++ [x]) st4 else .stuck
      else @lcL vs it.chk mg mt me inst (it.ds.drop (i + 1)) acc st2) := q'
    cases e5 : mt st4 with
    | err e' st5 => rw [e5] at q'; exact q'.elim
    | stuck => rw [e5] at q'; exact q'.elim
    | ok b st5 =>
    rw [e5] at q'
    intro W5 H5 I5 x5
    have x35 : Ext W' H' W5 H5 := (x3.trans x4).trans x5
    have n5 := x35.nw L _ eL o1
    have f5 := x35.fz L _ eL o1 o2
    have e5 := x35.un L _ eL (.inl o1)
    have q' : RL (if b = true then (me st5).bind fun ev st3 => (toD ev st3).bind fun x st4 => if acc.length < sizeLine then @lcL vs it.chk mg mt me inst (it.ds.drop (i + 1)) (acc ++ [x]) st4 else .stuck
      else @lcL vs it.chk mg mt me inst (it.ds.drop (i + 1)) acc st5) := q'
    split at q'
    · rename_i cb
      rw [if_pos cb]
      refine he W5 σ4 H5 st5 I5 _ ?_
      cases e6 : me st5 with
      | err e' st6 => rw [e6] at q'; exact q'.elim
      | stuck => rw [e6] at q'; exact q'.elim
      | ok ev st6 =>
      rw [e6] at q'
      intro W6 H6 I6 x6 v kv
      have q' : RL ((toD ev st6).bind fun x st4 => if acc.length < sizeLine then @lcL vs it.chk mg mt me inst (it.ds.drop (i + 1)) (acc ++ [x]) st4 else .stuck) := q'
      have q7 : Res K cl EF W6 σ4 H6 (toD ev st6) fun x st7 W7 H7 => toD ev st6 = .ok x st7 := by
        cases e7 : toD ev st6 with
        | ok x st7 => exact fun _ _ _ _ => rfl
        | err e' st7 => rw [e7] at q'; exact q'.elim
        | stuck => rw [e7] at q'; exact q'.elim
      obtain ⟨xd, st7, W7, I7, x7, rv, e7⟩ := toD_ok I6 kv q7
      rw [e7] at q'
      have q' : RL (if acc.length < sizeLine then @lcL vs it.chk mg mt me inst (it.ds.drop (i + 1)) (acc ++ [xd]) st7 else .stuck) := q'
      split at q'
      rotate_left
      · exact q'.elim
      rename_i hz
      have x37 : Ext W' H' W7 H6 := (x35.trans x6).trans x7
      have e6 := x37.un L _ eL (.inl o1)
      have n6 := x37.nw L _ eL o1
      have f6 := x37.fz L _ eL o1 o2
      have r6 := r.ext x37
      exact ⟨us, e6, by rw [r.len]; exact hz, W7, st7, acc ++ [xd], us ++ [v], ((I7.wipe w4).tmp f6 n6), (x'.trans x37).tmp hL, n6, f6, upd_same, r6.append (.cons rv .nil), q'⟩
    · rename_i cb
      rw [if_neg cb]
      exact ⟨W5, st5, acc, us, I5.wipe w4, x'.trans x35, n5, f5, e5, r.ext x35, q'⟩
  · rintro H' ⟨W', st', acc, us, I', x', o1, o2, eL, r, q'⟩
    rw [List.drop_length] at q'
    unfold lcL at q'
    split at q'
    · exact q' W' H' us I' x' o1 o2 eL r
    · exact q'.elim
theorem sT_yes : SimT K cl E tYes (M.pure true) := fun W σ H st I Q q => q.now I
end
end Mi

set_option Elab.async false
set_option linter.all false
set_option maxRecDepth 100000
set_option maxHeartbeats 4000000
namespace Mi
open PySem PySem.Spec PyProof.Rows L2
section
variable {K : Frag} {cl : (Str → Addr) × Addr × Bool} {E : Kv.Er → L2.St → Hp → Prop} {W : Wd} {σ : L2.St} {H : Hp} {ta tb tc : TE} {ma mb mc : M EV}
/-! ### defs -/
inductive AV where
  | dat (d : D) | io (k : Nat)
inductive RV where
  | dat (d : D) | io (k : Nat) | new (b : BX)
inductive RF where
  | ok (r : RV) (io : List BX) (S : List Ob) | err (e : Kv.Er) (io : List BX) (S : List Ob) | stuck
abbrev Fn := List AV → List BX → List Ob → RF
def AvOk (K : Frag) (W : Wd) (v : V) : AV → Prop
  | .dat d => Rep K W.F W.ρ v d
  | .io k => ∃ p, v = .ref p ∧ W.ow p = some (.io k)
inductive AvsOk (K : Frag) (W : Wd) : List V → List AV → Prop
  | nil : AvsOk K W [] []
  | cons {v : V} {a : AV} {vs : List V} {as : List AV} : AvOk K W v a → AvsOk K W vs as → AvsOk K W (v :: vs) (a :: as)
theorem AvsOk.len : ∀ {vs : List V} {as : List AV}, AvsOk K W vs as → vs.length = as.length
  | _, _, .nil => rfl
  | _, _, .cons _ t => by rw [List.length_cons, List.length_cons, t.len]
theorem AvsOk.get : ∀ {vs : List V} {as : List AV} {i : Nat} {a : AV}, AvsOk K W vs as → as[i]? = some a → ∃ v, vs[i]? = some v ∧ AvOk K W v a
  | _, _, i, _, .nil, e => by simp at e
  | _, _, 0, _, .cons r _, e => by cases e; exact ⟨_, rfl, r⟩
  | _, _, i + 1, _, .cons _ t, e => t.get (i := i) e
def RvOk (K : Frag) (H : Hp) (W' : Wd) (H' : Hp) (v : V) : RV → Prop
  | .dat d => Rep K W'.F W'.ρ v d
  | .io k => ∃ p, v = .ref p ∧ W'.ow p = some (.io k)
  | .new b => ∃ p, v = .ref p ∧ H p = none ∧ W'.F p = none ∧ W'.ow p = none ∧ BxOk K W' H' p b
def InvF (K : Frag) (cl : (Str → Addr) × Addr × Bool) (W : Wd) (H : Hp) (io : List BX) (S : List Ob) : Prop := Inv K cl W [] H ⟨[], io, S⟩
def RFok (K : Frag) (cl : (Str → Addr) × Addr × Bool) (ex : Kv.Er → Addr) (W : Wd) (H : Hp) (r : RF) (Q : VK) (E : XK) : Prop := match r with
  | .ok rv io' S' => ∀ W' H' v, InvF K cl W' H' io' S' → Ext W H W' H' → RvOk K H W' H' v rv → Q v H'
  | .err e io' S' => ∀ W' H', InvF K cl W' H' io' S' → Ext W H W' H' → E (.ref (ex e)) none H'
  | .stuck => False
/-- a def's promise by its function -/
def spM (K : Frag) (c : Str → Addr) (ex : Kv.Er → Addr) (n : Nat) (m : Fn) : Sp := fun vs H Q E => vs.length = n ∧ ∃ (xa : Addr) (W : Wd) (io : List BX) (S : List Ob) (as : List AV), InvF K (c, xa, false) W H io S ∧ (∀ p i, W.ow p ≠ some (.sl i)) ∧ AvsOk K W vs as ∧ RFok K (c, xa, false) ex W H (m as io S) Q E
def AV.sv : AV → SV
  | .dat d => .dat d
  | .io k => .io k
def runF (n : Nat) (ms : M Fl) : Fn := fun as io S => match ms ⟨as.map (fun a => some a.sv) ++ List.replicate (n - as.length) none, io, S⟩ with
  | .ok (.ret (.dat d)) st' => .ok (.dat d) st'.io st'.S
  | .ok (.ret (.io k)) st' => .ok (.io k) st'.io st'.S
  | .ok (.ret (.sl i)) st' => match st'.env[i]? with
    | some (some (.own b)) => .ok (.new b) st'.io st'.S
    | some (some (.dat d)) => .ok (.dat d) st'.io st'.S
    | _ => .stuck
  | .ok (.ret (.tp b)) st' => .ok (.new b) st'.io st'.S
  | .ok .nx st' => .ok (.dat .non) st'.io st'.S
  | .err e st' => .err e st'.io st'.S
  | _ => .stuck
theorem start_get {N : List Str} {vs : List V} {as : List AV} {i : Nat} {sv : SV} (r : AvsOk K W vs as) (h : (as.map (fun a => some a.sv) ++ List.replicate (N.length - as.length) none)[i]? = some (some sv)) : ∃ v a, (L2.start N vs)[i]? = some (some v) ∧ AvOk K W v a ∧ sv = a.sv := by
  have hl := r.len
  by_cases c : i < as.length
  · rw [List.getElem?_append_left (by simpa using c), List.getElem?_map, List.getElem?_eq_getElem c] at h
    cases h
    obtain ⟨v, e, k⟩ := r.get (List.getElem?_eq_getElem c)
    refine ⟨v, as[i], ?_, k, rfl⟩
    unfold L2.start
    rw [List.getElem?_append_left (by simp; omega), List.getElem?_map, e]
    rfl
  · rw [List.getElem?_append_right (by simp; omega), List.length_map, List.getElem?_replicate] at h
    split at h
    · cases h
    · cases h
theorem body_ok {ex : Kv.Er → Addr} {X : XK} {t : TS} {ms : M Fl} {N : List Str} {n : Nat} {vs : List V} {Q : VK} {c : Str → Addr} (h : ∀ xa, SimS K (c, xa, false) (fun e _ H => X (.ref (ex e)) none H) t ms) (q : spM K c ex n (runF N.length ms) vs H Q X) :
    t { nx := fun _ H' => Q .non H', rt := Q } (L2.start N vs) H := by
  obtain ⟨hv, xa, W, io, S, as, I, ns, r, q⟩ := q
  have hl := r.len
  have I0 : Inv K (c, xa, false) W (L2.start N vs) H ⟨as.map (fun a => some a.sv) ++ List.replicate (N.length - as.length) none, io, S⟩ := by
    refine Inv.slot I ?_ fun i sv e => ?_
    · unfold L2.start
      simp [hl]
    · obtain ⟨v, a, e1, k, rfl⟩ := start_get r e
      cases a with
      | dat d => exact ⟨v, e1, k⟩
      | io j => obtain ⟨p, rfl, o⟩ := k; exact ⟨p, e1, o⟩
  refine h xa W _ H _ I0 _ ?_
  unfold runF at q
  have fin : ∀ {W' : Wd} {σ' : L2.St} {H' : Hp} {st' : St}, Inv K (c, xa, false) W' σ' H' st' → InvF K (c, xa, false) W' H' st'.io st'.S := fun I' => Inv.slot I' rfl fun i sv e => by simp at e
  generalize ms ⟨as.map (fun a => some a.sv) ++ List.replicate (N.length - as.length) none, io, S⟩ = res at q
  cases res with
  | stuck => exact q.elim
  | err e st' => exact fun σ' W' H' I' x' => q W' H' (fin I') x'
  | ok f st' =>
    cases f with
    | nx => exact fun σ' W' H' I' x' => q W' H' _ (fin I') x' .non
    | brk => exact q.elim
    | cont => exact q.elim
    | ret ev =>
      cases ev with
      | dat d => exact fun σ' W' H' v I' x' k _ => q W' H' v (fin I') x' k
      | io k => exact fun σ' W' H' v I' x' k _ => q W' H' v (fin I') x' k
      | fl j f => exact q.elim
      | exc => exact q.elim
      | tp b =>
        intro σ' W' H' v I' x' k f
        obtain ⟨p, rfl, z1, z2, kb⟩ := k
        obtain ⟨p', e1, e2⟩ := f b rfl
        cases e1
        exact q W' H' _ (fin I') x' ⟨_, rfl, e2, z1, z2, kb⟩
      | sl i =>
        intro σ' W' H' v I' x' k _
        have k : σ'[i]? = some (some v) := k
        dsimp only at q
        split at q
        · rename_i b e
          obtain ⟨p, e1, o, kb⟩ := I'.slots i _ e
          rw [k] at e1
          cases e1
          have I2 : InvF K (c, xa, false) (W'.drop i) H' st'.io st'.S := by
            refine ⟨I'.xeq, fun z p k h => I'.nt z p k (drop_ow' h).1, I'.sub, fun p t h => I'.out p t (drop_ow' h).1, fun p q t h h' n => I'.inj p q t (drop_ow' h).1 (drop_ow' h').1 n, rfl, fun j sv e => by simp at e, fun k b e => ?_, I'.rlen, fun j o e => ?_⟩
            · obtain ⟨p, o, k2⟩ := I'.ios k b e
              exact ⟨p, drop_ow o (by simp), k2.kp (Same.refl _) (List.prefix_refl _) rfl⟩
            · exact (I'.obs j o e).kp (W := W') (W' := W'.drop i) (Same.refl _) (List.prefix_refl _) fun p t h z => ⟨rfl, drop_ow h (by rcases z with z | z | ⟨f, z⟩ <;> simp [z])⟩
          refine q (W'.drop i) H' _ I2 (x'.trans Ext.drop) ⟨p, rfl, ?_, (I'.out p _ o).1, ?_, kb.kp (Same.refl _) (List.prefix_refl _) rfl⟩
          · cases hp : H p with
            | none => rfl
            | some u =>
              exfalso
              cases c : W.ow p with
              | none => rw [x'.nw p u hp c] at o; cases o
              | some t =>
                have := x'.ow p t c (fun i z => ns p i (by rw [c, z]))
                rw [o] at this
                cases this
                exact ns p i c
          · show (if W'.ow p = some (.sl i) then none else W'.ow p) = none
            rw [if_pos o]
        · rename_i d e
          obtain ⟨v', e1, rv⟩ := I'.slots i _ e
          rw [k] at e1
          cases e1
          exact q W' H' v (fin I') x' rv
        · exact q.elim
/-- of a def that raises nothing -/
def noErrF (m : Fn) : Fn := fun as io S => match m as io S with
  | .err _ _ _ => .stuck
  | r => r
theorem noErrF_ne {m : Fn} {as : List AV} {bs io : List BX} {S S' : List Ob} {e : Kv.Er} (h : noErrF m as bs S = .err e io S') : False := by
  unfold noErrF at h
  split at h
  · cases h
  · rename_i n; exact n _ _ _ h
theorem body_ok0 {ex : Kv.Er → Addr} {X : XK} {t : TS} {ms : M Fl} {N : List Str} {n : Nat} {vs : List V} {Q : VK} {c : Str → Addr} (h : ∀ xa, SimS K (c, xa, false) EF t ms) (q : spM K c ex n (noErrF (runF N.length ms)) vs H Q X) :
    t { nx := fun _ H' => Q .non H', rt := Q } (L2.start N vs) H := by
  obtain ⟨hv, xa, W, io, S, as, I, ns, r, q⟩ := q
  refine body_ok (X := fun _ _ _ => False) (ex := ex) (n := n) h ⟨hv, xa, W, io, S, as, I, ns, r, ?_⟩
  unfold noErrF at q
  split at q
  · exact q.elim
  · rename_i n
    cases e : runF N.length ms as io S with
    | err a b c => exact absurd e (n a b c)
    | ok rv io S => rw [e] at q; exact q
    | stuck => rw [e] at q; exact q
/-! ### calls -/
def hTagAt (k : Nat) : EV → Tag
  | .sl i => .sl i
  | .io k => .io k
  | .tp _ => .tm k
  | _ => .xt
def tagsOf (hs : List EV) : List Tag := hs.mapIdx hTagAt
theorem tags_get {hs : List EV} {k : Nat} : (tagsOf hs)[k]? = (hs[k]?).map (hTagAt k) := by unfold tagsOf; rw [List.getElem?_mapIdx]
def isH : EV → Bool
  | .sl _ => true
  | .io _ => true
  | .tp _ => true
  | _ => false
def boxOf (st : St) : EV → Option BX
  | .tp b => some b
  | ev => ownB st ev
/-- what is handed over: plain data, and what the caller owns by its place in a list -/
def splitA (st : St) : Nat → List EV → Option (List AV × List EV × List BX)
  | _, [] => some ([], [], [])
  | n, .dat d :: r => (splitA st n r).map fun x => (.dat d :: x.1, x.2.1, x.2.2)
  | n, ev :: r => if isH ev = true then match boxOf st ev, splitA st (n + 1) r with
      | some b, some x => some (.io n :: x.1, ev :: x.2.1, b :: x.2.2)
      | _, _ => none
    else none
def putH (st : St) : List EV → List BX → St
  | .sl i :: hs, b :: bs => putH { st with env := st.env.set i (some (.own b)) } hs bs
  | .io k :: hs, b :: bs => putH { st with io := st.io.set k b } hs bs
  | _ :: hs, _ :: bs => putH st hs bs
  | _, _ => st
theorem putH_env : ∀ (hs : List EV) (bs : List BX) (st : St) (i : Nat) (sv : SV), (putH st hs bs).env[i]? = some (some sv) → (∃ (k : Nat) (b : BX), hs[k]? = some (EV.sl i) ∧ bs[k]? = some b ∧ sv = .own b) ∨ ((hs.length = bs.length → EV.sl i ∉ hs) ∧ st.env[i]? = some (some sv))
  | [], bs, st, i, sv, h => .inr ⟨fun _ => by simp, by cases bs <;> exact h⟩
  | h0 :: hs, [], st, i, sv, h => .inr ⟨fun z => by simp at z, by cases h0 <;> exact h⟩
  | h0 :: hs, b :: bs, st, i, sv, h => by
    have go : ∀ st1 : St, (putH st1 hs bs).env[i]? = some (some sv) → (∀ x, st1.env[i]? = some x → (h0 = .sl i ∧ x = some (.own b)) ∨ (h0 ≠ .sl i ∧ st.env[i]? = some x)) → (∃ (k : Nat) (b' : BX), (h0 :: hs)[k]? = some (EV.sl i) ∧ (b :: bs)[k]? = some b' ∧ sv = .own b') ∨ (((h0 :: hs).length = (b :: bs).length → EV.sl i ∉ h0 :: hs) ∧ st.env[i]? = some (some sv)) := by
      intro st1 h k
      rcases putH_env hs bs st1 i sv h with ⟨j, b', e1, e2, e3⟩ | ⟨m, e⟩
      · exact .inl ⟨j + 1, b', e1, e2, e3⟩
      · rcases k _ e with ⟨rfl, z⟩ | ⟨n, z⟩
        · cases z; exact .inl ⟨0, b, rfl, rfl, rfl⟩
        · exact .inr ⟨fun l => by
            have := m (by simpa using l)
            simp [this, Ne.symm n], z⟩
    cases h0 with
    | sl j =>
      refine go _ h fun x hx => ?_
      rcases set_get hx with ⟨rfl, z⟩ | ⟨c, z⟩
      · exact .inl ⟨rfl, z⟩
      · exact .inr ⟨fun q => c (by cases q; rfl), z⟩
    | io j => exact go _ h fun x hx => .inr ⟨by simp, hx⟩
    | dat d => exact go _ h fun x hx => .inr ⟨by simp, hx⟩
    | fl j f => exact go _ h fun x hx => .inr ⟨by simp, hx⟩
    | exc => exact go _ h fun x hx => .inr ⟨by simp, hx⟩
    | tp b => exact go _ h fun x hx => .inr ⟨by simp, hx⟩
theorem putH_io : ∀ (hs : List EV) (bs : List BX) (st : St) (i : Nat) (sv : BX), (putH st hs bs).io[i]? = some sv → (∃ k : Nat, hs[k]? = some (EV.io i) ∧ bs[k]? = some sv) ∨ ((hs.length = bs.length → EV.io i ∉ hs) ∧ st.io[i]? = some sv)
  | [], bs, st, i, sv, h => .inr ⟨fun _ => by simp, by cases bs <;> exact h⟩
  | h0 :: hs, [], st, i, sv, h => .inr ⟨fun z => by simp at z, by cases h0 <;> exact h⟩
  | h0 :: hs, b :: bs, st, i, sv, h => by
    have go : ∀ st1 : St, (putH st1 hs bs).io[i]? = some sv → (∀ x, st1.io[i]? = some x → (h0 = .io i ∧ x = b) ∨ (h0 ≠ .io i ∧ st.io[i]? = some x)) → (∃ k : Nat, (h0 :: hs)[k]? = some (EV.io i) ∧ (b :: bs)[k]? = some sv) ∨ (((h0 :: hs).length = (b :: bs).length → EV.io i ∉ h0 :: hs) ∧ st.io[i]? = some sv) := by
      intro st1 h k
      rcases putH_io hs bs st1 i sv h with ⟨j, e1, e2⟩ | ⟨m, e⟩
      · exact .inl ⟨j + 1, e1, e2⟩
      · rcases k _ e with ⟨rfl, z⟩ | ⟨n, z⟩
        · subst z; exact .inl ⟨0, rfl, rfl⟩
        · exact .inr ⟨fun l => by
            have := m (by simpa using l)
            simp [this, Ne.symm n], z⟩
    cases h0 with
    | io j =>
      refine go _ h fun x hx => ?_
      rcases set_get hx with ⟨rfl, z⟩ | ⟨c, z⟩
      · exact .inl ⟨rfl, z⟩
      · exact .inr ⟨fun q => c (by cases q; rfl), z⟩
    | sl j => exact go _ h fun x hx => .inr ⟨by simp, hx⟩
    | dat d => exact go _ h fun x hx => .inr ⟨by simp, hx⟩
    | fl j f => exact go _ h fun x hx => .inr ⟨by simp, hx⟩
    | exc => exact go _ h fun x hx => .inr ⟨by simp, hx⟩
    | tp b => exact go _ h fun x hx => .inr ⟨by simp, hx⟩
theorem putH_len : ∀ (hs : List EV) (bs : List BX) (st : St), (putH st hs bs).env.length = st.env.length ∧ (putH st hs bs).S = st.S
  | [], bs, st => by cases bs <;> exact ⟨rfl, rfl⟩
  | h0 :: hs, [], st => by cases h0 <;> exact ⟨rfl, rfl⟩
  | h0 :: hs, b :: bs, st => by
    cases h0 with
    | sl j => have := putH_len hs bs { st with env := st.env.set j (some (.own b)) }; exact ⟨this.1.trans (by simp), this.2⟩
    | io j => exact putH_len hs bs { st with io := st.io.set j b }
    | dat d => exact putH_len hs bs st
    | fl j f => exact putH_len hs bs st
    | exc => exact putH_len hs bs st
    | tp b => exact putH_len hs bs st
/-- the lists on the way, by their places among what is handed over -/
def tmOf : Nat → List V → List EV → Addr → Option Nat
  | n, v :: vs, ev :: evs, p => match ev with
    | .dat _ => tmOf n vs evs p
    | .tp _ => if v = .ref p then some n else tmOf (n + 1) vs evs p
    | _ => tmOf (n + 1) vs evs p
  | _, _, _, _ => none
theorem tmOf_le : ∀ {vs : List V} {evs : List EV} {n k : Nat} {p : Addr}, tmOf n vs evs p = some k → n ≤ k
  | [], _, n, k, p, h => by simp [tmOf] at h
  | _ :: _, [], n, k, p, h => by simp [tmOf] at h
  | v :: vs, ev :: evs, n, k, p, h => by
    cases ev with
    | dat d => exact tmOf_le (vs := vs) (evs := evs) (n := n) h
    | tp b =>
      have h : (if v = .ref p then some n else tmOf (n + 1) vs evs p) = some k := h
      split at h
      · cases h; exact Nat.le_refl _
      · exact Nat.le_trans (Nat.le_succ _) (tmOf_le h)
    | sl i => exact Nat.le_trans (Nat.le_succ _) (tmOf_le (vs := vs) (evs := evs) (n := n + 1) h)
    | io i => exact Nat.le_trans (Nat.le_succ _) (tmOf_le (vs := vs) (evs := evs) (n := n + 1) h)
    | fl i f => exact Nat.le_trans (Nat.le_succ _) (tmOf_le (vs := vs) (evs := evs) (n := n + 1) h)
    | exc => exact Nat.le_trans (Nat.le_succ _) (tmOf_le (vs := vs) (evs := evs) (n := n + 1) h)
theorem tmOf_inj : ∀ {vs : List V} {evs : List EV} {n k : Nat} {p q : Addr}, tmOf n vs evs p = some k → tmOf n vs evs q = some k → p = q
  | [], _, n, k, p, q, h, _ => by simp [tmOf] at h
  | _ :: _, [], n, k, p, q, h, _ => by simp [tmOf] at h
  | v :: vs, ev :: evs, n, k, p, q, h, h' => by
    cases ev with
    | dat d => exact tmOf_inj (vs := vs) (evs := evs) (n := n) h h'
    | tp b =>
      have h : (if v = .ref p then some n else tmOf (n + 1) vs evs p) = some k := h
      have h' : (if v = .ref q then some n else tmOf (n + 1) vs evs q) = some k := h'
      split at h
      · rename_i e
        cases h
        split at h'
        · rename_i e'
          rw [e] at e'
          cases e'
          rfl
        · exact absurd (tmOf_le h') (by omega)
      · split at h'
        · cases h'
          exact absurd (tmOf_le h) (by omega)
        · exact tmOf_inj h h'
    | sl i => exact tmOf_inj (vs := vs) (evs := evs) (n := n + 1) h h'
    | io i => exact tmOf_inj (vs := vs) (evs := evs) (n := n + 1) h h'
    | fl i f => exact tmOf_inj (vs := vs) (evs := evs) (n := n + 1) h h'
    | exc => exact tmOf_inj (vs := vs) (evs := evs) (n := n + 1) h h'
theorem tmOf_some : ∀ {vs : List V} {evs : List EV} {n k : Nat} {p : Addr}, tmOf n vs evs p = some k → ∃ (i : Nat) (b : BX), evs[i]? = some (.tp b) ∧ vs[i]? = some (.ref p)
  | [], _, n, k, p, h => by simp [tmOf] at h
  | _ :: _, [], n, k, p, h => by simp [tmOf] at h
  | v :: vs, ev :: evs, n, k, p, h => by
    have go : ∀ n, tmOf n vs evs p = some k → ∃ (i : Nat) (b : BX), (ev :: evs)[i]? = some (.tp b) ∧ (v :: vs)[i]? = some (.ref p) := fun n h => by
      obtain ⟨i, b, e1, e2⟩ := tmOf_some h
      exact ⟨i + 1, b, e1, e2⟩
    cases ev with
    | dat d => exact go n h
    | tp b =>
      have h : (if v = .ref p then some n else tmOf (n + 1) vs evs p) = some k := h
      split at h
      · rename_i e; exact ⟨0, b, rfl, by rw [e]; rfl⟩
      · exact go (n + 1) h
    | sl i => exact go (n + 1) h
    | io i => exact go (n + 1) h
    | fl i f => exact go (n + 1) h
    | exc => exact go (n + 1) h
theorem EvsOk.get : ∀ {vs : List V} {evs : List EV} {i : Nat} {ev : EV}, EvsOk K W H σ vs evs → evs[i]? = some ev → ∃ v, vs[i]? = some v ∧ EvOk K W H σ v ev
  | _, _, i, _, .nil, e => by simp at e
  | _, _, 0, _, .cons r _, e => by cases e; exact ⟨_, rfl, r⟩
  | _, _, i + 1, _, .cons _ t, e => t.get (i := i) e
def Wd.tm (W : Wd) (vs : List V) (evs : List EV) : Wd := { W with xa := (W.xa.1, true), ow := fun p => match tmOf 0 vs evs p with
  | some k => some (Tag.tm k)
  | none => W.ow p }
theorem tm_free {st : St} {vs : List V} {evs : List EV} {n k : Nat} {p : Addr} (I : Inv K cl W σ H st) (ks : EvsOk K W H σ vs evs) (h : tmOf n vs evs p = some k) : W.ow p = none ∧ W.F p = none ∧ ∃ o, H p = some o := by
  obtain ⟨i, b, e1, e2⟩ := tmOf_some h
  obtain ⟨v, e3, q, rfl, z1, z2, kb⟩ := ks.get e1
  rw [e2] at e3
  cases e3
  refine ⟨z2, z1, ?_⟩
  cases b with
  | lst ds => obtain ⟨vs, e, _⟩ := kb; exact ⟨_, e⟩
  | dct ds => obtain ⟨vs, e, _⟩ := kb; exact ⟨_, e⟩
  | fz ds => obtain ⟨_, vs, e, _⟩ := kb; exact ⟨_, e⟩
theorem slTm {vs : List V} {evs : List EV} {i : Nat} {sv : SV} (h : SlOk K W σ H i sv) (up : ∀ {p : Addr} {t : Tag}, W.ow p = some t → (W.tm vs evs).ow p = some t) : SlOk K (W.tm vs evs) σ H i sv := by
  cases sv with
  | exc => exact h
  | dat d => exact h
  | own b => obtain ⟨p, e, o, k⟩ := h; exact ⟨p, e, up o, k.kp (Same.refl _) (List.prefix_refl _) rfl⟩
  | io k => obtain ⟨p, e, o⟩ := h; exact ⟨p, e, up o⟩
  | fl j f => obtain ⟨p, e, o⟩ := h; exact ⟨p, e, up o⟩
theorem tm_ok {c : Str → Addr} {xa : Addr} {st : St} {vs : List V} {evs : List EV} (I : Inv K (c, xa, false) W σ H st) (ks : EvsOk K W H σ vs evs) : Inv K (c, xa, true) (W.tm vs evs) σ H st := by
  have hx : W.xa = (xa, false) := I.xeq
  have nt : ∀ p k, W.ow p ≠ some (.tm k) := I.nt (by rw [hx])
  have up : ∀ {p : Addr} {t : Tag}, W.ow p = some t → (W.tm vs evs).ow p = some t := fun {p t} h => by
    show (match tmOf 0 vs evs p with | some k => some (Tag.tm k) | none => W.ow p) = _
    cases e : tmOf 0 vs evs p with
    | none => exact h
    | some k => rw [(tm_free I ks e).1] at h; cases h
  have dn : ∀ {p : Addr} {t : Tag}, (W.tm vs evs).ow p = some t → (∃ k, t = Tag.tm k ∧ tmOf 0 vs evs p = some k) ∨ W.ow p = some t := fun {p t} h => by
    have h : (match tmOf 0 vs evs p with | some k => some (Tag.tm k) | none => W.ow p) = some t := h
    cases e : tmOf 0 vs evs p with
    | none => rw [e] at h; exact .inr h
    | some k => rw [e] at h; cases h; exact .inl ⟨k, rfl, rfl⟩
  refine ⟨by show (W.xa.1, true) = _; rw [hx], (fun z => Bool.noConfusion z), I.sub, fun p t h => ?_, fun p q t h h' n => ?_, I.len, fun i sv e => slTm (I.slots i sv e) up, fun k b e => ?_, I.rlen, fun j o e => (I.obs j o e).kp (W := W) (W' := W.tm vs evs) (Same.refl _) (List.prefix_refl _) fun p t h z => ⟨rfl, up h⟩⟩
  · rcases dn h with ⟨k, rfl, e⟩ | h
    · exact ⟨(tm_free I ks e).2.1, (tm_free I ks e).2.2⟩
    · exact I.out p t h
  · rcases dn h with ⟨k, rfl, e⟩ | h
    · rcases dn h' with ⟨k', e2, e'⟩ | h'
      · cases e2; exact tmOf_inj e e'
      · exact absurd h' (nt q k)
    · rcases dn h' with ⟨k', rfl, e'⟩ | h'
      · exact absurd h (nt p k')
      · exact I.inj p q t h h' n
  · obtain ⟨p, o, kb⟩ := I.ios k b e
    exact ⟨p, up o, kb.kp (Same.refl _) (List.prefix_refl _) rfl⟩
theorem h_ok {st : St} {v : V} {ev : EV} {b : BX} (I : Inv K cl W σ H st) (k : EvOk K W H σ v ev) (h : isH ev = true) (n : ∀ b, ev ≠ .tp b) (e : boxOf st ev = some b) : ∃ p, v = .ref p ∧ (∀ j, W.ow p = some (hTagAt j ev)) ∧ BxOk K W H p b := by
  cases ev with
  | dat d => cases h
  | fl j f => cases h
  | exc => cases h
  | tp b => exact absurd rfl (n b)
  | sl i =>
    unfold boxOf ownB at e
    dsimp only at e
    have k : σ[i]? = some (some v) := k
    split at e
    · rename_i b0 es
      cases e
      obtain ⟨p, h1, h2, h3⟩ := I.slots i _ es
      rw [k] at h1
      cases h1
      exact ⟨p, rfl, fun _ => h2, h3⟩
    · cases e
  | io i =>
    unfold boxOf ownB at e
    dsimp only at e
    obtain ⟨p, rfl, o⟩ := k
    obtain ⟨q, h2, h3⟩ := I.ios i _ e
    cases I.inj p q _ o h2 (by simp)
    exact ⟨_, rfl, fun _ => h2, h3⟩
theorem splitA_ok {st : St} {H0 : Hp} (I : Inv K cl W σ H st) : ∀ {evs : List EV} {n : Nat} {vs : List V} {as : List AV} {hs : List EV} {bs : List BX}, EvsOk K W H σ vs evs → FrOk H0 vs evs → splitA st n evs = some (as, hs, bs) →
    hs.length = bs.length ∧ (∀ (k : Nat) (h : EV) (b : BX), hs[k]? = some h → bs[k]? = some b → isH h = true ∧ boxOf st h = some b ∧ ∃ p, (W.ow p = some (hTagAt (n + k) h) ∧ (∀ b, h ≠ .tp b) ∨ (∃ b, h = .tp b) ∧ tmOf n vs evs p = some (n + k)) ∧ BxOk K W H p b) ∧ as.length = vs.length ∧
    ∀ (W' : Wd), Same W.F W'.F → W'.ρ = W.ρ → (∀ (k : Nat) (h : EV) (p : Addr), hs[k]? = some h → (W.ow p = some (hTagAt (n + k) h) ∧ (∀ b, h ≠ .tp b) ∨ (∃ b, h = .tp b) ∧ tmOf n vs evs p = some (n + k)) → W'.ow p = some (.io (n + k))) → AvsOk K W' vs as
  | [], n, _, as, hs, bs, .nil, _, e => by
    cases e
    exact ⟨rfl, fun k h b e => by simp at e, rfl, fun W' _ _ _ => .nil⟩
  | ev :: r, n, _, as, hs, bs, .cons (v := v) (vs := vs) k t, .cons f0 ft, e => by
    by_cases hd : ∃ d, ev = .dat d
    · obtain ⟨d, rfl⟩ := hd
      have e : (splitA st n r).map (fun x => (AV.dat d :: x.1, x.2.1, x.2.2)) = some (as, hs, bs) := e
      cases ex : splitA st n r with
      | none => rw [ex] at e; cases e
      | some x =>
        rw [ex] at e
        cases e
        obtain ⟨h1, h2, h3, h4⟩ := splitA_ok I t ft ex
        exact ⟨h1, h2, by simp [h3], fun W' s r' hk => .cons (Rep.mono s (r' ▸ List.prefix_refl _) k) (h4 W' s r' hk)⟩
    · have e : (if isH ev = true then match boxOf st ev, splitA st (n + 1) r with
        | some b, some x => some (AV.io n :: x.1, ev :: x.2.1, b :: x.2.2)
        | _, _ => none
        else none) = some (as, hs, bs) := by
        cases ev with
        | dat d => exact absurd ⟨d, rfl⟩ hd
        | _ => exact e
      split at e
      rotate_left
      · cases e
      rename_i hH
      split at e
      · rename_i b x eb ex
        cases e
        obtain ⟨h1, h2, h3, h4⟩ := splitA_ok I t ft ex
        -- a later list on the way is another one
        have tl : ∀ {p : Addr} {k : Nat}, tmOf (n + 1) vs r p = some k → tmOf n (v :: vs) (ev :: r) p = some k := fun {p k} h => by
          cases ev with
          | dat d => exact absurd ⟨d, rfl⟩ hd
          | tp b =>
            obtain ⟨q, rfl, _, hq⟩ := f0 b rfl
            unfold tmOf
            dsimp only
            obtain ⟨i, b', e1, e2⟩ := tmOf_some h
            rw [if_neg (fun z => by cases z; exact hq i b' e1 e2)]
            exact h
          | sl i => exact h
          | io i => exact h
          | fl i f => exact h
          | exc => exact h
        have head : ∃ p, v = .ref p ∧ (W.ow p = some (hTagAt n ev) ∧ (∀ b, ev ≠ .tp b) ∨ (∃ b, ev = .tp b) ∧ tmOf n (v :: vs) (ev :: r) p = some n) ∧ BxOk K W H p b := by
          by_cases ht : ∃ b, ev = .tp b
          · obtain ⟨b', rfl⟩ := ht
            cases eb
            obtain ⟨p, rfl, _, _, kb⟩ := k
            refine ⟨p, rfl, .inr ⟨⟨b, rfl⟩, ?_⟩, kb⟩
            show (if V.ref p = .ref p then some n else tmOf (n + 1) vs r p) = some n
            exact if_pos rfl
          · obtain ⟨p, rfl, o, kb⟩ := h_ok I k hH (fun b z => ht ⟨b, z⟩) eb
            exact ⟨p, rfl, .inl ⟨o n, fun b z => ht ⟨b, z⟩⟩, kb⟩
        obtain ⟨p, rfl, ho, kb⟩ := head
        refine ⟨by simp [h1], fun k h b' e1 e2 => ?_, by simp [h3], fun W' s r' hk => .cons ⟨p, rfl, by simpa using hk 0 ev p rfl (by simpa using ho)⟩ (h4 W' s r' fun k h p' e1 e2 => ?_)⟩
        · cases k with
          | zero => cases e1; cases e2; exact ⟨hH, eb, p, by simpa using ho, kb⟩
          | succ k =>
            obtain ⟨g1, g2, p', g3, g4⟩ := h2 k h b' e1 e2
            refine ⟨g1, g2, p', ?_, g4⟩
            rw [show n + (k + 1) = n + 1 + k by omega]
            rcases g3 with g3 | ⟨g3, g5⟩
            · exact .inl g3
            · exact .inr ⟨g3, tl g5⟩
        · have := hk (k + 1) h p' e1
          rw [show n + (k + 1) = n + 1 + k by omega] at this
          refine this ?_
          rcases e2 with g3 | ⟨g3, g5⟩
          · exact .inl g3
          · exact .inr ⟨g3, tl g5⟩
      · cases e
/-- who owns what, as the callee sees it -/
def conv (T : List Tag) : Tag → Tag
  | .sl i => match T.idxOf? (.sl i) with
    | some k => .io k
    | none => .xt
  | .io i => match T.idxOf? (.io i) with
    | some k => .io k
    | none => .xt
  | .tm i => match T.idxOf? (.tm i) with
    | some k => .io k
    | none => .xt
  | t => t
def Wd.callee (W : Wd) (T : List Tag) : Wd := { W with xa := (W.xa.1, false), ow := fun p => (W.ow p).map (conv T) }
/-- .. and behind the call -/
def Wd.after (W W' : Wd) (T : List Tag) : Wd := { W' with xa := W.xa, ow := fun p => match W'.ow p with
  | none => none
  | some .xt => W.ow p
  | some (.io k) => T[k]?
  | some (.sl _) => none
  | some t => some t }
def mPut (hs : List EV) (st : St) (io : List BX) (S : List Ob) : St := { putH st hs io with S := S }
theorem idx_of {T : List Tag} {t : Tag} {k : Nat} (h : T.idxOf? t = some k) : T[k]? = some t := by
  unfold List.idxOf? at h
  obtain ⟨h1, h2, _⟩ := List.findIdx?_eq_some_iff_getElem.mp h
  rw [List.getElem?_eq_getElem h1]
  simpa using h2
theorem idx_nd {T : List Tag} {t : Tag} {k : Nat} (hN : T.Nodup) (h : T[k]? = some t) : T.idxOf? t = some k := by
  cases e : T.idxOf? t with
  | none =>
    exfalso
    unfold List.idxOf? at e
    rw [List.findIdx?_eq_none_iff] at e
    have := e t (List.mem_of_getElem? h)
    simp at this
  | some j =>
    have := idx_of e
    rw [nd_ix hN this h]


def smt (t : Tag) : Prop := (∃ i, t = .sl i) ∨ (∃ i, t = .io i) ∨ ∃ i, t = .tm i
theorem conv_in {T : List Tag} {t : Tag} {k : Nat} (hN : T.Nodup) (h : T[k]? = some t) (n : smt t) : conv T t = .io k := by
  rcases n with ⟨i, rfl⟩ | ⟨i, rfl⟩ | ⟨i, rfl⟩ <;> (unfold conv; dsimp only; rw [idx_nd hN h])
theorem conv_out {T : List Tag} {t : Tag} (h : t ∉ T) (n : smt t) : conv T t = .xt := by
  have e : T.idxOf? t = none := by
    cases e : T.idxOf? t with
    | none => rfl
    | some k => exact absurd (List.mem_of_getElem? (idx_of e)) h
  rcases n with ⟨i, rfl⟩ | ⟨i, rfl⟩ | ⟨i, rfl⟩ <;> (unfold conv; dsimp only; rw [e])
theorem smt_or (t : Tag) : smt t ∨ t = .xt ∨ (∃ j, t = .ob j) ∨ (∃ j, t = .dx j) ∨ ∃ j f, t = .fd j f := by
  cases t with
  | sl i => exact .inl (.inl ⟨i, rfl⟩)
  | io i => exact .inl (.inr (.inl ⟨i, rfl⟩))
  | tm i => exact .inl (.inr (.inr ⟨i, rfl⟩))
  | xt => exact .inr (.inl rfl)
  | ob j => exact .inr (.inr (.inl ⟨j, rfl⟩))
  | dx j => exact .inr (.inr (.inr (.inl ⟨j, rfl⟩)))
  | fd j f => exact .inr (.inr (.inr (.inr ⟨j, f, rfl⟩)))
def obj : Tag → Prop
  | .ob _ => True
  | .dx _ => True
  | .fd _ _ => True
  | _ => False
theorem smt_obj {t : Tag} (h : smt t) : ¬ obj t := by rcases h with ⟨i, rfl⟩ | ⟨i, rfl⟩ | ⟨i, rfl⟩ <;> exact fun z => z
theorem conv_obj {T : List Tag} {t : Tag} (h : obj t) : conv T t = t := by cases t <;> first | exact h.elim | rfl
theorem conv_smt {T : List Tag} {t : Tag} (h : smt t) : (∃ k, T[k]? = some t ∧ conv T t = .io k) ∨ (t ∉ T ∧ conv T t = .xt) := by
  cases e : T.idxOf? t with
  | none =>
    have m : t ∉ T := fun m => by
      unfold List.idxOf? at e
      rw [List.findIdx?_eq_none_iff] at e
      have := e _ m
      simp at this
    exact .inr ⟨m, conv_out m h⟩
  | some k =>
    refine .inl ⟨k, idx_of e, ?_⟩
    rcases h with ⟨i, rfl⟩ | ⟨i, rfl⟩ | ⟨i, rfl⟩ <;> (unfold conv; dsimp only; rw [e])
theorem conv_cases {T : List Tag} (t : Tag) : (smt t ∧ ∃ k, T[k]? = some t ∧ conv T t = .io k) ∨ (smt t ∧ t ∉ T ∧ conv T t = .xt) ∨ (t = .xt ∧ conv T t = .xt) ∨ (obj t ∧ conv T t = t) := by
  rcases smt_or t with h | rfl | ⟨j, rfl⟩ | ⟨j, rfl⟩ | ⟨j, f, rfl⟩
  · rcases conv_smt (T := T) h with c | c
    · exact .inl ⟨h, c⟩
    · exact .inr (.inl ⟨h, c⟩)
  · exact .inr (.inr (.inl ⟨rfl, rfl⟩))
  · exact .inr (.inr (.inr ⟨trivial, rfl⟩))
  · exact .inr (.inr (.inr ⟨trivial, rfl⟩))
  · exact .inr (.inr (.inr ⟨trivial, rfl⟩))
theorem tag_smt : ∀ {h : EV} {k : Nat}, isH h = true → smt (hTagAt k h)
  | .sl i, _, _ => .inl ⟨i, rfl⟩
  | .io i, _, _ => .inr (.inl ⟨i, rfl⟩)
  | .tp _, k, _ => .inr (.inr ⟨k, rfl⟩)
  | .dat _, _, e => nomatch e
  | .fl _ _, _, e => nomatch e
  | .exc, _, e => nomatch e
/-- the callee's world out of the caller's -/
theorem callee_ok {c : Str → Addr} {xa : Addr} {fl : Bool} {st : St} {hs : List EV} {bs : List BX} (I : Inv K (c, xa, fl) W σ H st) (hN : (tagsOf hs).Nodup) (hl : hs.length = bs.length) (hb : ∀ (k : Nat) (h : EV) (b : BX), hs[k]? = some h → bs[k]? = some b → isH h = true ∧ boxOf st h = some b ∧ ∃ p, W.ow p = some (hTagAt k h) ∧ BxOk K W H p b)
    (htm : ∀ p k, W.ow p = some (.tm k) → Tag.tm k ∈ tagsOf hs) :
    InvF K (c, xa, false) (W.callee (tagsOf hs)) H bs st.S ∧ (∀ p i, (W.callee (tagsOf hs)).ow p ≠ some (.sl i)) ∧ ∀ (k : Nat) (h : EV) (p : Addr), hs[k]? = some h → W.ow p = some (hTagAt k h) → (W.callee (tagsOf hs)).ow p = some (.io k) := by
  have hTg : ∀ {k : Nat} {h : EV}, hs[k]? = some h → (tagsOf hs)[k]? = some (hTagAt k h) := fun {k h} e => by rw [tags_get, e]; rfl
  generalize tagsOf hs = T at *
  have ow : ∀ {p : Addr} {t : Tag}, (W.callee T).ow p = some t → ∃ u, W.ow p = some u ∧ conv T u = t := fun {p t} h => by
    have h : (W.ow p).map (conv T) = some t := h
    cases e : W.ow p with
    | none => rw [e] at h; cases h
    | some u => rw [e] at h; cases h; exact ⟨u, rfl, rfl⟩
  have up : ∀ {p : Addr} {u : Tag}, W.ow p = some u → (W.callee T).ow p = some (conv T u) := fun {p u} h => by
    show (W.ow p).map (conv T) = _
    rw [h]; rfl
  have hk : ∀ (k : Nat) (h : EV) (p : Addr), hs[k]? = some h → W.ow p = some (hTagAt k h) → (W.callee T).ow p = some (.io k) := fun k h p e o => by
    rw [up o]
    have hi : isH h = true := (hb k h _ e (List.getElem?_eq_getElem (by rw [← hl]; exact (List.getElem?_eq_some_iff.mp e).1))).1
    rw [conv_in hN (hTg e) (tag_smt hi)]
  refine ⟨⟨?_, fun _ p k h => ?_, I.sub, fun p t h => ?_, fun p q t h h' n => ?_, rfl, fun i sv e => by simp at e, fun k b e => ?_, I.rlen, fun j o e => ?_⟩, fun p i h => ?_, hk⟩
  · show (W.xa.1, false) = _
    have : W.xa = (xa, fl) := I.xeq
    rw [this]
  · obtain ⟨u, e, cc⟩ := ow h
    rcases conv_cases (T := T) u with ⟨_, k', _, z⟩ | ⟨_, _, z⟩ | ⟨_, z⟩ | ⟨o, z⟩
    · rw [cc] at z; cases z
    · rw [cc] at z; cases z
    · rw [cc] at z; cases z
    · rw [cc] at z; subst z; exact o
  · obtain ⟨u, e, _⟩ := ow h
    exact I.out p u e
  · obtain ⟨u, e, cc⟩ := ow h
    obtain ⟨u', e', cc'⟩ := ow h'
    have hu : u = u' := by
      rcases conv_cases (T := T) u with ⟨_, k, g, z⟩ | ⟨_, _, z⟩ | ⟨_, z⟩ | ⟨o, z⟩
      · rcases conv_cases (T := T) u' with ⟨_, k', g', z'⟩ | ⟨_, _, z'⟩ | ⟨_, z'⟩ | ⟨o', z'⟩
        · rw [cc] at z; rw [cc', z] at z'; cases z'; rw [g] at g'; exact Option.some.inj g'
        · rw [cc'] at z'; exact (by rw [z'] at n; cases n)
        · rw [cc'] at z'; exact (by rw [z'] at n; cases n)
        · rw [cc] at z; rw [cc', z] at z'; rw [← z'] at o'; exact o'.elim
      · rw [cc] at z; exact (by rw [z] at n; cases n)
      · rw [cc] at z; exact (by rw [z] at n; cases n)
      · rcases conv_cases (T := T) u' with ⟨_, k', g', z'⟩ | ⟨_, _, z'⟩ | ⟨_, z'⟩ | ⟨o', z'⟩
        · rw [cc] at z; rw [cc', z] at z'; rw [z'] at o; exact o.elim
        · rw [cc'] at z'; exact (by rw [z'] at n; cases n)
        · rw [cc'] at z'; exact (by rw [z'] at n; cases n)
        · rw [cc] at z; rw [cc'] at z'; rw [← z, ← z']
    subst hu
    refine I.inj p q u e e' ?_
    cases u with
    | ob j => rw [conv_obj (by trivial)] at cc; rw [← cc] at n; cases n
    | dx j => rw [conv_obj (by trivial)] at cc; rw [← cc] at n; cases n
    | xt => have z : t = Tag.xt := by rw [← cc]; rfl
            rw [z] at n; cases n
    | _ => rfl
  · have hlt : k < hs.length := by rw [hl]; exact (List.getElem?_eq_some_iff.mp e).1
    obtain ⟨_, _, p, o, kb⟩ := hb k hs[k] b (List.getElem?_eq_getElem hlt) e
    exact ⟨p, hk k _ p (List.getElem?_eq_getElem hlt) o, kb.kp (Same.refl _) (List.prefix_refl _) rfl⟩
  · refine (I.obs j o e).kp (W := W) (W' := W.callee T) (Same.refl _) (List.prefix_refl _) fun p t h z => ⟨rfl, ?_⟩
    rw [up h, conv_obj (by rcases z with z | z | ⟨f, z⟩ <;> (rw [z]; trivial))]
  · obtain ⟨u, e, cc⟩ := ow h
    rcases conv_cases (T := T) u with ⟨_, k', _, z⟩ | ⟨_, _, z⟩ | ⟨_, z⟩ | ⟨o, z⟩
    · rw [cc] at z; cases z
    · rw [cc] at z; cases z
    · rw [cc] at z; cases z
    · rw [cc] at z; rw [← z] at o; exact o
/-- .. and back -/
theorem after_ok {c : Str → Addr} {xa : Addr} {fl : Bool} {st : St} {hs : List EV} {bs io : List BX} {S : List Ob} {W' : Wd} {H' : Hp} (I : Inv K (c, xa, fl) W σ H st) (hN : (tagsOf hs).Nodup) (hl : hs.length = bs.length) (hb : ∀ (k : Nat) (h : EV) (b : BX), hs[k]? = some h → bs[k]? = some b → isH h = true ∧ boxOf st h = some b ∧ ∃ p, W.ow p = some (hTagAt k h) ∧ BxOk K W H p b)
    (htm : ∀ p k, W.ow p = some (.tm k) → Tag.tm k ∈ tagsOf hs) (I' : InvF K (c, xa, false) W' H' io S) (x : Ext (W.callee (tagsOf hs)) H W' H') (hio : io.length = hs.length) :
    Inv K (c, xa, fl) (W.after W' (tagsOf hs)) σ H' (mPut hs st io S) ∧ (∀ p t, W.ow p = some t → (W.after W' (tagsOf hs)).ow p = some t) ∧ (∀ p, W.ow p = none → (∃ o, H p = some o) → (W.after W' (tagsOf hs)).ow p = none) ∧ (∀ p, (W.after W' (tagsOf hs)).ow p = some .xt → W.ow p = some .xt) := by
  obtain ⟨IC, nsl, hk⟩ := callee_ok I hN hl hb htm
  have hTg : ∀ {k : Nat} {h : EV}, hs[k]? = some h → (tagsOf hs)[k]? = some (hTagAt k h) := fun {k h} e => by rw [tags_get, e]; rfl
  have hTgi : ∀ {k : Nat} {t : Tag}, (tagsOf hs)[k]? = some t → ∃ h, hs[k]? = some h ∧ t = hTagAt k h := fun {k t} e => by
    rw [tags_get] at e
    cases eh : hs[k]? with
    | none => rw [eh] at e; cases e
    | some h => rw [eh] at e; cases e; exact ⟨h, rfl, rfl⟩
  generalize tagsOf hs = T at *
  have up : ∀ {p : Addr} {u : Tag}, W.ow p = some u → (W.callee T).ow p = some (conv T u) := fun {p u} h => by
    show (W.ow p).map (conv T) = _
    rw [h]; rfl
  have up0 : ∀ {p : Addr}, W.ow p = none → (W.callee T).ow p = none := fun {p} h => by
    show (W.ow p).map (conv T) = _
    rw [h]; rfl
  have upx : ∀ {p : Addr} {u : Tag}, W.ow p = some u → W'.ow p = some (conv T u) := fun {p u} h => x.ow p _ (up h) fun i z => nsl p i (by rw [up h, z])
  have hT1 : ∀ {k : Nat} {t : Tag}, T[k]? = some t → ∃ h p, hs[k]? = some h ∧ t = hTagAt k h ∧ isH h = true ∧ W.ow p = some t ∧ W'.ow p = some (.io k) := fun {k t} e => by
    obtain ⟨h, eh, rfl⟩ := hTgi e
    obtain ⟨hi, _, p, o, _⟩ := hb k h _ eh (List.getElem?_eq_getElem (by rw [← hl]; exact (List.getElem?_eq_some_iff.mp eh).1))
    exact ⟨h, p, eh, rfl, hi, o, x.ow p _ (hk k h p eh o) (by simp)⟩
  have hio1 : ∀ {p : Addr} {k : Nat}, W'.ow p = some (.io k) → k < hs.length → ∃ h, hs[k]? = some h ∧ T[k]? = some (hTagAt k h) ∧ W.ow p = some (hTagAt k h) := fun {p k} o hk' => by
    have e := hTg (List.getElem?_eq_getElem hk')
    obtain ⟨h, q, eh, et, hi, oq, oq'⟩ := hT1 e
    cases I'.inj p q _ o oq' (by simp)
    exact ⟨_, List.getElem?_eq_getElem hk', e, oq⟩
  have aft : ∀ {p : Addr} {t : Tag}, W'.ow p = some t → (W.after W' T).ow p = (match t with | .xt => W.ow p | .io k => T[k]? | .sl _ => none | t => some t) := fun {p t} h => by
    show (match W'.ow p with | none => none | some .xt => W.ow p | some (.io k) => T[k]? | some (.sl _) => none | some t => some t) = _
    rw [h]; cases t <;> rfl
  have keep : ∀ {p : Addr} {t : Tag}, W.ow p = some t → (W.after W' T).ow p = some t ∧ (t ∉ T → ¬ obj t → H' p = H p) := fun {p t} o => by
    have ow' := upx o
    obtain ⟨_, u, hu⟩ := I.out p t o
    rcases conv_cases (T := T) t with ⟨hs', k, g, z⟩ | ⟨hs', m, z⟩ | ⟨rfl, z⟩ | ⟨ho, z⟩
    · rw [z] at ow'
      exact ⟨by rw [aft ow']; exact g, fun m => absurd (List.mem_of_getElem? g) m⟩
    · rw [z] at ow'
      exact ⟨by rw [aft ow']; exact o, fun _ _ => by rw [hu]; exact x.un p u hu (.inr (.inl (by rw [up o, z])))⟩
    · rw [z] at ow'
      exact ⟨by rw [aft ow']; exact o, fun _ _ => by rw [hu]; exact x.un p u hu (.inr (.inl (by rw [up o, z])))⟩
    · rw [z] at ow'
      refine ⟨?_, fun _ h => absurd ho h⟩
      rw [aft ow']
      cases t <;> first | exact ho.elim | rfl
  have back : ∀ {p : Addr} {t : Tag}, (W.after W' T).ow p = some t → (∃ u, W'.ow p = some u) ∧ (obj t → W'.ow p = some t) ∧ (¬ obj t → W.ow p = some t) := fun {p t} h => by
    cases e : W'.ow p with
    | none =>
      have : (W.after W' T).ow p = none := by
        show (match W'.ow p with | none => none | some .xt => W.ow p | some (.io k) => T[k]? | some (.sl _) => none | some t => some t) = _
        rw [e]
      rw [this] at h; cases h
    | some u =>
      refine ⟨⟨u, rfl⟩, ?_⟩
      rw [aft e] at h
      cases u with
      | xt =>
        have h : W.ow p = some t := h
        refine ⟨fun ho => ?_, fun _ => h⟩
        have := upx h
        rw [conv_obj ho] at this
        exact e ▸ this
      | io k =>
        have h : T[k]? = some t := h
        obtain ⟨g, q, eg, rfl, hi, oq, oq'⟩ := hT1 h
        cases I'.inj p q _ e oq' (by simp)
        exact ⟨fun ho => absurd ho (smt_obj (tag_smt hi)), fun _ => oq⟩
      | sl i => cases h
      | tm i => exact absurd e (I'.nt (by have : W'.xa = (xa, false) := I'.xeq; rw [this]) p i)
      | ob j => cases h; exact ⟨fun _ => rfl, fun z => absurd trivial z⟩
      | dx j => cases h; exact ⟨fun _ => rfl, fun z => absurd trivial z⟩
      | fd j f => cases h; exact ⟨fun _ => rfl, fun z => absurd trivial z⟩
  have hrr : W.ρ <+: W'.ρ := x.rr
  have hsF : Same W.F W'.F := x.sF
  have inT : ∀ {i : Nat}, Tag.sl i ∈ T → EV.sl i ∈ hs := fun {i} m => by
    obtain ⟨k, e⟩ := List.getElem?_of_mem m
    obtain ⟨h, eh, et⟩ := hTgi e
    cases h <;> first | cases et; exact List.mem_of_getElem? eh | cases et
  have inT2 : ∀ {i : Nat}, Tag.io i ∈ T → EV.io i ∈ hs := fun {i} m => by
    obtain ⟨k, e⟩ := List.getElem?_of_mem m
    obtain ⟨h, eh, et⟩ := hTgi e
    cases h <;> first | cases et; exact List.mem_of_getElem? eh | cases et
  refine ⟨⟨I.xeq, fun z p k h => ?_, I'.sub, fun p t h => ?_, fun p q t h h' n => ?_, ?_, fun i sv e => ?_, fun k b e => ?_, I'.rlen, fun j o e => ?_⟩, fun p t h => (keep h).1, fun p h ⟨o, ho⟩ => ?_, fun p h => (back h).2.2 (fun z => z)⟩
  · exact I.nt z p k ((back h).2.2 (fun z => z))
  · obtain ⟨⟨u, hu⟩, _⟩ := back h
    exact I'.out p u hu
  · by_cases ho : obj t
    · exact I'.inj p q t ((back h).2.1 ho) ((back h').2.1 ho) n
    · exact I.inj p q t ((back h).2.2 ho) ((back h').2.2 ho) n
  · show σ.length = (putH st hs io).env.length
    rw [(putH_len hs io st).1]
    exact I.len
  · have e : (putH st hs io).env[i]? = some (some sv) := e
    rcases putH_env hs io st i sv e with ⟨k, b, e1, e2, rfl⟩ | ⟨m, e⟩
    · obtain ⟨q, o', kb⟩ := I'.ios k b e2
      obtain ⟨h, eh, et, oq⟩ := hio1 o' (List.getElem?_eq_some_iff.mp e1).1
      rw [e1] at eh
      cases eh
      have hlt : k < bs.length := by rw [← hl]; exact (List.getElem?_eq_some_iff.mp e1).1
      obtain ⟨hi, eo, _⟩ := hb k _ _ e1 (List.getElem?_eq_getElem hlt)
      unfold boxOf ownB at eo
      dsimp only at eo
      split at eo
      · rename_i b0 es
        obtain ⟨p, h1, h2, _⟩ := I.slots i _ es
        have := I.inj p q _ h2 oq (by simp)
        subst this
        exact ⟨p, h1, (keep h2).1, kb.kp (Same.refl _) (List.prefix_refl _) rfl⟩
      · cases eo
    · have m := m hio.symm
      refine (I.slots i sv e).kp (W := W) (W' := W.after W' T) hsF hrr (fun p t h n => (keep h).1) (fun p h => ⟨(keep h).2 (fun z => m (inT z)) (fun z => z), (keep h).1⟩) rfl
  · have e : (putH st hs io).io[k]? = some b := e
    rcases putH_io hs io st k b e with ⟨j, e1, e2⟩ | ⟨m, e⟩
    · obtain ⟨q, o', kb⟩ := I'.ios j b e2
      obtain ⟨h, eh, et, oq⟩ := hio1 o' (List.getElem?_eq_some_iff.mp e1).1
      rw [e1] at eh
      cases eh
      exact ⟨q, (keep oq).1, kb.kp (Same.refl _) (List.prefix_refl _) rfl⟩
    · have m := m hio.symm
      obtain ⟨p, o, kb⟩ := I.ios k b e
      exact ⟨p, (keep o).1, kb.kp hsF hrr ((keep o).2 (fun z => m (inT2 z)) (fun z => z))⟩
  · refine (I'.obs j o e).kp (W := W') (W' := W.after W' T) (Same.refl _) (List.prefix_refl _) fun p t h z => ⟨rfl, ?_⟩
    rw [aft h]
    rcases z with rfl | rfl | ⟨f, rfl⟩ <;> rfl
  · have := x.nw p o ho (up0 h)
    show (match W'.ow p with | none => none | some .xt => W.ow p | some (.io k) => T[k]? | some (.sl _) => none | some t => some t) = _
    rw [this]
/-- the lists on the way are nobody's again -/
def Wd.untm (W : Wd) : Wd := { W with xa := (W.xa.1, false), ow := fun p => match W.ow p with
  | some (.tm _) => none
  | o => o }
theorem untm_some {p : Addr} {t : Tag} (h : W.untm.ow p = some t) : W.ow p = some t ∧ ∀ k, t ≠ .tm k := by
  have h : (match W.ow p with | some (.tm _) => none | o => o) = some t := h
  cases e : W.ow p with
  | none => rw [e] at h; cases h
  | some u => rw [e] at h; cases u <;> first | cases h; exact ⟨rfl, by simp⟩ | cases h
theorem untm_keep {p : Addr} {t : Tag} (h : W.ow p = some t) (n : ∀ k, t ≠ .tm k) : W.untm.ow p = some t := by
  show (match W.ow p with | some (.tm _) => none | o => o) = some t
  rw [h]
  cases t <;> first | rfl | exact absurd rfl (n _)
theorem untm_ok {c : Str → Addr} {xa : Addr} {fl : Bool} {st : St} (I : Inv K (c, xa, fl) W σ H st) : Inv K (c, xa, false) W.untm σ H st := by
  have hx : W.xa = (xa, fl) := I.xeq
  refine ⟨by show (W.xa.1, false) = _; rw [hx], fun _ p k h => (untm_some h).2 k rfl, I.sub, fun p t h => I.out p t (untm_some h).1, fun p q t h h' n => I.inj p q t (untm_some h).1 (untm_some h').1 n, I.len, fun i sv e => ?_, fun k b e => ?_, I.rlen, fun j o e => (I.obs j o e).kp (W := W) (W' := W.untm) (Same.refl _) (List.prefix_refl _) fun p t h z => ⟨rfl, untm_keep h (by rcases z with z | z | ⟨f, z⟩ <;> simp [z])⟩⟩
  · have k := I.slots i sv e
    cases sv with
    | exc => exact k
    | dat d => exact k
    | own b => obtain ⟨p, e, o, k⟩ := k; exact ⟨p, e, untm_keep o (by simp), k.kp (Same.refl _) (List.prefix_refl _) rfl⟩
    | io k' => obtain ⟨p, e, o⟩ := k; exact ⟨p, e, untm_keep o (by simp)⟩
    | fl j f => obtain ⟨p, e, o⟩ := k; exact ⟨p, e, untm_keep o (by simp)⟩
  · obtain ⟨p, o, kb⟩ := I.ios k b e
    exact ⟨p, untm_keep o (by simp), kb.kp (Same.refl _) (List.prefix_refl _) rfl⟩
end
end Mi

set_option Elab.async false
set_option linter.all false
set_option maxRecDepth 100000
set_option maxHeartbeats 4000000
namespace Mi
open PySem PySem.Spec PyProof.Rows L2
section
variable {K : Frag} {E : Kv.Er → L2.St → Hp → Prop} {W : Wd} {σ : L2.St} {H : Hp} {ta tb tc : TE} {ma mb mc : M EV}
theorem splitA_tm {st : St} {p : Addr} : ∀ {evs : List EV} {n j : Nat} {vs : List V} {as : List AV} {hs : List EV} {bs : List BX}, tmOf n vs evs p = some j → splitA st n evs = some (as, hs, bs) → ∃ k b, j = n + k ∧ hs[k]? = some (.tp b)
  | [], n, j, vs, _, _, _, h, _ => by cases vs <;> simp [tmOf] at h
  | ev :: r, n, j, [], _, _, _, h, _ => by simp [tmOf] at h
  | ev :: r, n, j, v :: vs, as, hs, bs, h, e => by
    by_cases hd : ∃ d, ev = .dat d
    · obtain ⟨d, rfl⟩ := hd
      have e : (splitA st n r).map (fun x => (AV.dat d :: x.1, x.2.1, x.2.2)) = some (as, hs, bs) := e
      cases ex : splitA st n r with
      | none => rw [ex] at e; cases e
      | some x => rw [ex] at e; cases e; exact splitA_tm (vs := vs) h ex
    · have e : (if isH ev = true then match boxOf st ev, splitA st (n + 1) r with
        | some b, some x => some (AV.io n :: x.1, ev :: x.2.1, b :: x.2.2)
        | _, _ => none
        else none) = some (as, hs, bs) := by
        cases ev with
        | dat d => exact absurd ⟨d, rfl⟩ hd
        | _ => exact e
      split at e
      rotate_left
      · cases e
      split at e
      rotate_left
      · cases e
      rename_i b x eb ex
      cases e
      have tl : tmOf (n + 1) vs r p = some j → ∃ k b, j = n + k ∧ (ev :: x.2.1)[k]? = some (.tp b) := fun h => by
        obtain ⟨k, b, e1, e2⟩ := splitA_tm h ex
        exact ⟨k + 1, b, by omega, e2⟩
      cases ev with
      | dat d => exact absurd ⟨d, rfl⟩ hd
      | tp b' =>
        unfold tmOf at h
        dsimp only at h
        split at h
        · cases h; exact ⟨0, b', rfl, rfl⟩
        · exact tl h
      | sl i => exact tl h
      | io i => exact tl h
      | fl i f => exact tl h
      | exc => exact tl h
/-- the callee's end, in the caller's words -/
def backV (hs : List EV) : RV → Option (EV ⊕ BX)
  | .dat d => some (.inl (.dat d))
  | .io k => match hs[k]? with
    | some (.sl i) => some (.inl (.sl i))
    | some (.io i) => some (.inl (.io i))
    | _ => none
  | .new b => some (.inr b)
def callR (n : Nat) (m : Fn) (evs : List EV) (st : St) : R (EV ⊕ BX) := match splitA st 0 evs with
  | none => .stuck
  | some (as, hs, bs) => if (tagsOf hs).Nodup ∧ as.length = n then match m as bs st.S with
      | .stuck => .stuck
      | .err e io S => if io.length = hs.length then .err e (mPut hs st io S) else .stuck
      | .ok rv io S => if io.length = hs.length then match backV hs rv with
          | some x => .ok x (mPut hs st io S)
          | none => .stuck
        else .stuck
    else .stuck
def mCall0 (n : Nat) (m : Fn) (ma : M (List EV)) : M (EV ⊕ BX) := fun st => (ma st).bind fun evs st1 => callR n m evs st1
/-- a call: what is behind it -/
theorem call_ok {c : Str → Addr} {xa : Addr} {W0 : Wd} {H0 : Hp} {st0 st : St} {evs : List EV} {vs : List V} {ex : Kv.Er → Addr} {n : Nat} {m : Fn} {Q : VK} {X : XK} (I0 : Inv K (c, xa, false) W0 σ H0 st0) (I : Inv K (c, xa, false) W σ H st) (x0 : Ext W0 H0 W H) (ks : EvsOk K W H σ vs evs) (fs : FrOk H0 vs evs) (hns : callR n m evs st ≠ .stuck)
    (hE : ∀ e st', callR n m evs st = .err e st' → (∃ as bs S io S', m as bs S = .err e io S') → ∀ W' H', Inv K (c, xa, false) W' σ H' st' → Ext W0 H0 W' H' → X (.ref (ex e)) none H')
    (k : ∀ x st' W' H' v, callR n m evs st = .ok x st' → Inv K (c, xa, false) W' σ H' st' → Ext W0 H0 W' H' → W.ρ <+: W'.ρ → (∀ ev, x = .inl ev → EvOk K W' H' σ v ev) → (∀ b, x = .inr b → ∃ p, v = .ref p ∧ H0 p = none ∧ W'.F p = none ∧ W'.ow p = none ∧ BxOk K W' H' p b) → Q v H') : spM K c ex n m (vs ++ []) H Q X := by
  rw [List.append_nil]
  unfold callR at hns hE k
  cases e : splitA st 0 evs with
  | none => rw [e] at hns; exact absurd rfl hns
  | some xx =>
  obtain ⟨as, hs, bs⟩ := xx
  rw [e] at hns hE k
  dsimp only at hns hE k
  by_cases hN : (tagsOf hs).Nodup ∧ as.length = n
  rotate_left
  · rw [if_neg hN] at hns; exact absurd rfl hns
  rw [if_pos hN] at hns hE k
  obtain ⟨hN, hn⟩ := hN
  obtain ⟨hl, hb0, hlen, hav⟩ := splitA_ok I ks fs e
  have J0 := tm_ok I ks
  have tmd : ∀ {p : Addr} {k : Nat}, tmOf 0 vs evs p = some k → (W.tm vs evs).ow p = some (.tm k) := fun {p k} h => by
    show (match tmOf 0 vs evs p with | some k => some (Tag.tm k) | none => W.ow p) = _
    rw [h]
  have tmn : ∀ {p : Addr}, tmOf 0 vs evs p = none → (W.tm vs evs).ow p = W.ow p := fun {p} h => by
    show (match tmOf 0 vs evs p with | some k => some (Tag.tm k) | none => W.ow p) = _
    rw [h]
  have tup : ∀ {p : Addr} {t : Tag}, W.ow p = some t → (W.tm vs evs).ow p = some t := fun {p t} h => by
    cases e : tmOf 0 vs evs p with
    | none => rw [tmn e]; exact h
    | some k => rw [(tm_free I ks e).1] at h; cases h
  have tfresh : ∀ {p : Addr} {o : HO}, H0 p = some o → tmOf 0 vs evs p = none := fun {p o} h => by
    cases e : tmOf 0 vs evs p with
    | none => rfl
    | some k =>
      obtain ⟨i, b, e1, e2⟩ := tmOf_some e
      obtain ⟨q, e3, e4⟩ := fs.get e1
      rw [e2] at e3
      cases e3
      rw [e4] at h
      cases h
  have cond : ∀ (k : Nat) (h : EV) (p : Addr), (W.ow p = some (hTagAt (0 + k) h) ∧ (∀ b, h ≠ .tp b) ∨ (∃ b, h = .tp b) ∧ tmOf 0 vs evs p = some (0 + k)) → (W.tm vs evs).ow p = some (hTagAt k h) := fun k h p z => by
    rw [Nat.zero_add] at z
    rcases z with ⟨z, _⟩ | ⟨⟨b, rfl⟩, z⟩
    · exact tup z
    · exact tmd z
  have hb : ∀ (k : Nat) (h : EV) (b : BX), hs[k]? = some h → bs[k]? = some b → isH h = true ∧ boxOf st h = some b ∧ ∃ p, (W.tm vs evs).ow p = some (hTagAt k h) ∧ BxOk K (W.tm vs evs) H p b := fun k h b e1 e2 => by
    obtain ⟨g1, g2, p, g3, g4⟩ := hb0 k h b e1 e2
    exact ⟨g1, g2, p, cond k h p g3, g4.kp (Same.refl _) (List.prefix_refl _) rfl⟩
  have htm : ∀ p k, (W.tm vs evs).ow p = some (.tm k) → Tag.tm k ∈ tagsOf hs := fun p k h => by
    cases e1 : tmOf 0 vs evs p with
    | none =>
      rw [tmn e1] at h
      have hx : W.xa = (xa, false) := I.xeq
      exact absurd h (I.nt (by rw [hx]) p k)
    | some j =>
      rw [tmd e1] at h
      cases h
      obtain ⟨k', b, e2, e3⟩ := splitA_tm e1 e
      refine List.mem_of_getElem? (i := k') ?_
      rw [tags_get, e3, e2, Nat.zero_add]
      rfl
  obtain ⟨IC, nsl, hk⟩ := callee_ok J0 hN hl hb htm
  refine ⟨by rw [← hlen]; exact hn, xa, _, bs, st.S, as, IC, nsl, hav _ (Same.refl _) rfl (fun k h p e z => by rw [Nat.zero_add]; exact hk k h p e (cond k h p z)), ?_⟩
  have fin : ∀ {W' : Wd} {H' : Hp} {io : List BX} {S : List Ob}, InvF K (c, xa, false) W' H' io S → Ext ((W.tm vs evs).callee (tagsOf hs)) H W' H' → io.length = hs.length →
      Inv K (c, xa, false) (((W.tm vs evs).after W' (tagsOf hs)).untm) σ H' (mPut hs st io S) ∧ Ext W0 H0 (((W.tm vs evs).after W' (tagsOf hs)).untm) H' := by
    intro W' H' io S I' x hio
    obtain ⟨J, kp, nn, xt⟩ := after_ok J0 hN hl hb htm I' x hio
    have hx0 : W0.xa = (xa, false) := I0.xeq
    have hx : W.xa = (xa, false) := I.xeq
    have cn : ∀ {p : Addr}, (W.tm vs evs).ow p = none → ((W.tm vs evs).callee (tagsOf hs)).ow p = none := fun {p} h => by
      show ((W.tm vs evs).ow p).map (conv (tagsOf hs)) = _
      rw [h]; rfl
    have cx : ∀ {p : Addr}, (W.tm vs evs).ow p = some .xt → ((W.tm vs evs).callee (tagsOf hs)).ow p = some .xt := fun {p} h => by
      show ((W.tm vs evs).ow p).map (conv (tagsOf hs)) = _
      rw [h]; rfl
    have n0 : ∀ {p : Addr} {o : HO}, H0 p = some o → W0.ow p = none → (W.tm vs evs).ow p = none := fun {p o} h z => by
      rw [tmn (tfresh h)]; exact x0.nw p o h z
    refine ⟨untm_ok J, ⟨x0.sF.trans x.sF, x0.rr.trans x.rr, fun p t h n => ?_, fun p o h z => ?_, fun p h => ?_, fun p o h z => ?_, fun p h => x0.lv p (x.lv p h), fun p o h z f => ?_, ?_⟩⟩
    · refine untm_keep (kp p t (tup (x0.ow p t h n))) fun k z => ?_
      subst z
      exact I0.nt (by rw [hx0]) p k h
    · have hp := x0.un p o h z
      refine x.un p o hp ?_
      rcases z with z | z | z
      · exact .inl (cn (n0 h z))
      · exact .inr (.inl (cx (tup (x0.ow p _ z (fun i => by simp)))))
      · exact .inr (.inr z)
    · have h1 := xt p (untm_some h).1
      cases e1 : tmOf 0 vs evs p with
      | none => rw [tmn e1] at h1; exact x0.xt p h1
      | some k => rw [tmd e1] at h1; cases h1
    · have := nn p (n0 h z) ⟨o, x0.un p o h (.inl z)⟩
      show (match ((W.tm vs evs).after W' (tagsOf hs)).ow p with | some (.tm _) => none | o => o) = none
      rw [this]
    · exact x.fz p o (x0.un p o h (.inl z)) (cn (n0 h z)) (x0.fz p o h z f)
    · show (W.xa.1, false) = W0.xa
      rw [hx, hx0]
  cases em : m as bs st.S with
  | stuck => rw [em] at hns; exact absurd rfl hns
  | err er io S =>
    rw [em] at hns hE
    dsimp only at hns hE
    by_cases hio : io.length = hs.length
    · rw [if_pos hio] at hE
      intro W' H' I' x'
      obtain ⟨J, y⟩ := fin I' x' hio
      exact hE er _ rfl ⟨as, bs, st.S, io, S, em⟩ _ H' J y
    · rw [if_neg hio] at hns; exact absurd rfl hns
  | ok rv io S =>
    rw [em] at hns k
    dsimp only at hns k
    by_cases hio : io.length = hs.length
    rotate_left
    · rw [if_neg hio] at hns; exact absurd rfl hns
    rw [if_pos hio] at hns k
    cases ex' : backV hs rv with
    | none => rw [ex'] at hns; exact absurd rfl hns
    | some x =>
    rw [ex'] at k
    intro W' H' v I' x' rk
    obtain ⟨J, y⟩ := fin I' x' hio
    have aft : ∀ {p : Addr}, ((W.tm vs evs).after W' (tagsOf hs)).untm.ow p = (match (match W'.ow p with | none => none | some .xt => (W.tm vs evs).ow p | some (.io k) => (tagsOf hs)[k]? | some (.sl _) => none | some t => some t) with | some (.tm _) => none | o => o) := rfl
    refine k x _ _ H' v rfl J y x'.rr (fun ev he => ?_) (fun b he => ?_)
    · subst he
      cases rv with
      | dat d => cases ex'; exact rk
      | new b => cases ex'
      | io j =>
        obtain ⟨p, rfl, o⟩ := rk
        unfold backV at ex'
        dsimp only at ex'
        split at ex'
        · rename_i i eh
          cases ex'
          obtain ⟨hi, eo, q', oq, _⟩ := hb j _ _ eh (List.getElem?_eq_getElem (by rw [← hl]; exact (List.getElem?_eq_some_iff.mp eh).1))
          have oq' : W'.ow q' = some (.io j) := x'.ow q' _ (hk j _ q' eh oq) (by simp)
          have := I'.inj _ _ _ o oq' (by simp)
          subst this
          unfold boxOf ownB at eo
          dsimp only at eo
          split at eo
          · rename_i b0 es
            obtain ⟨p', h1, h2, _⟩ := J0.slots i _ es
            have := J0.inj _ _ _ h2 oq (by simp [hTagAt])
            subst this
            exact h1
          · cases eo
        · rename_i i eh
          cases ex'
          refine ⟨_, rfl, ?_⟩
          rw [aft, o]
          dsimp only
          rw [tags_get, eh]
          rfl
        · cases ex'
    · subst he
      cases rv with
      | dat d => cases ex'
      | io j =>
        exfalso
        unfold backV at ex'
        dsimp only at ex'
        split at ex' <;> cases ex'
      | new b' =>
        cases ex'
        obtain ⟨p, rfl, n1, n2, n3, kb⟩ := rk
        refine ⟨p, rfl, x0.lv p n1, n2, ?_, kb.kp (Same.refl _) (List.prefix_refl _) rfl⟩
        rw [aft, n3]
def frzR : EV ⊕ BX → St → R EV
  | .inl ev, st => .ok ev st
  | .inr (.lst ds), st => .ok (.dat (.lst ds)) st
  | _, _ => .stuck
def mCall (n : Nat) (m : Fn) (ma : M (List EV)) : M EV := fun st => (mCall0 n m ma st).bind frzR
theorem R.bind_assoc {α β γ : Type} (r : R α) (f : α → St → R β) (g : β → St → R γ) : (r.bind f).bind g = r.bind fun a st => (f a st).bind g := by cases r <;> rfl
theorem sE_call {c : Str → Addr} {xa : Addr} {ex : Kv.Er → Addr} {X : L2.St → XK} {n : Nat} {m : Fn} {t : TA} {mt : M (List EV)} (hE : ∀ e σ H, (∃ as bs S io S', m as bs S = .err e io S') → E e σ H → X σ (.ref (ex e)) none H) (ha : SimA K (c, xa, false) E t mt) : SimE K (c, xa, false) E (fun σ H Q => t σ H fun vs H1 => spM K c ex n m (vs ++ []) H1 Q (X σ)) (mCall n m mt) := by
  intro W σ H st I Q q
  unfold mCall mCall0 at q
  rw [R.bind_assoc] at q
  refine ha W σ H st I _ (Res.imp (Res.bind q) fun evs st1 W1 H1 hm1 I1 x1 q1 vs ks fs => ?_)
  rw [hm1] at q
  have q : Res K (c, xa, false) E W σ H ((callR n m evs st1).bind frzR) (fun ev _ W' H' => ∀ v, EvOk K W' H' σ v ev → Q v H') := q
  refine call_ok I I1 x1 ks fs (fun z => by rw [z] at q; exact q) (fun e st' z w W' H' I' x' => by rw [z] at q; exact hE e σ H' w (q W' H' I' x')) fun x st' W' H' v z I' x' _ k1 k2 => ?_
  rw [z] at q
  cases x with
  | inl ev => exact q W' H' I' x' v (k1 ev rfl)
  | inr b =>
    cases b with
    | dct _ => exact q.elim
    | fz _ => exact q.elim
    | lst ds =>
      obtain ⟨p, rfl, n1, n2, n3, us, e, r⟩ := k2 _ rfl
      exact q _ _ (I'.know e n3 n2) (x'.know n1 n2) _ (.lst (SqL.of upd_same) (r.mono (Kv.same_upd n2) (List.prefix_refl _)))
/-- a call whose new list goes on -/
def newR : EV ⊕ BX → St → R BX
  | .inr b, st => .ok b st
  | _, _ => .stuck
def mCallN (n : Nat) (m : Fn) (ma : M (List EV)) : M BX := fun st => (mCall0 n m ma st).bind newR
theorem sN_call {c : Str → Addr} {xa : Addr} {ex : Kv.Er → Addr} {X : L2.St → XK} {n : Nat} {m : Fn} {t : TA} {mt : M (List EV)} (hE : ∀ e σ H, (∃ as bs S io S', m as bs S = .err e io S') → E e σ H → X σ (.ref (ex e)) none H) (ha : SimA K (c, xa, false) E t mt) : SimN K (c, xa, false) E (fun σ H Q => t σ H fun vs H1 => spM K c ex n m (vs ++ []) H1 Q (X σ)) (mCallN n m mt) := by
  intro W σ H st I Q q
  unfold mCallN mCall0 at q
  rw [R.bind_assoc] at q
  refine ha W σ H st I _ (Res.imp (Res.bind q) fun evs st1 W1 H1 hm1 I1 x1 q1 vs ks fs => ?_)
  rw [hm1] at q
  have q : Res K (c, xa, false) E W σ H ((callR n m evs st1).bind newR) (fun b _ W' H' => ∀ p, H p = none → W'.F p = none → W'.ow p = none → BxOk K W' H' p b → Q (.ref p) H') := q
  refine call_ok I I1 x1 ks fs (fun z => by rw [z] at q; exact q) (fun e st' z w W' H' I' x' => by rw [z] at q; exact hE e σ H' w (q W' H' I' x')) fun x st' W' H' v z I' x' _ k1 k2 => ?_
  rw [z] at q
  cases x with
  | inl ev => exact q.elim
  | inr b =>
    obtain ⟨p, rfl, n1, n2, n3, kb⟩ := k2 _ rfl
    exact q W' H' I' x' p n1 n2 n3 kb
end
end Mi

set_option Elab.async false
set_option linter.all false
set_option maxRecDepth 100000
set_option maxHeartbeats 4000000
namespace Mi
open PySem PySem.Spec PyProof.Rows L2
section
variable {K : Frag} {cl : (Str → Addr) × Addr × Bool} {E : Kv.Er → L2.St → Hp → Prop} {W : Wd} {σ : L2.St} {H : Hp} {ta tb tc : TE} {ma mb mc : M EV}
/-! ### errors -/
def mRaise (er : Kv.Er) : M Fl := fun st => .err er st
theorem sS_raise {ts : TS} {er : Kv.Er} (h : ∀ D σ H, E er σ H → ts D σ H) : SimS K cl E ts (mRaise er) := fun W σ H st I D q => h D σ H (q σ W H I (Ext.refl _ _))
def noExc (env : List (Option SV)) : List (Option SV) := env.map fun x => match x with
  | some .exc => none
  | x => x
theorem noExc_some {env : List (Option SV)} {i : Nat} {sv : SV} (h : (noExc env)[i]? = some (some sv)) : env[i]? = some (some sv) ∧ sv ≠ .exc := by
  unfold noExc at h
  rw [List.getElem?_map] at h
  cases e : env[i]? with
  | none => rw [e] at h; cases h
  | some x =>
    rw [e] at h
    cases x with
    | none => cases h
    | some y => cases y <;> first | cases h; exact ⟨rfl, by simp⟩ | cases h
def mTry (i : Nat) (hit : Kv.Er → Bool) (mb : M Fl) (ms : Kv.Er → M Fl) : M Fl := fun st => match mb st with
  | .err e st1 => if hit e = true then match ms e { st1 with env := (noExc st1.env).set i (some .exc) } with
      | .ok (.ret .exc) _ => .stuck
      | .ok f st2 => .ok f { st2 with env := (noExc st2.env).set i none }
      | _ => .stuck
    else .err e st1
  | r => r
theorem Ext.sx {W2 : Wd} {H2 : Hp} {a : Addr × Bool} (x : Ext { W with xa := a } H W2 H2) : Ext W H { W2 with xa := W.xa } H2 := ⟨x.sF, x.rr, x.ow, x.un, x.xt, x.nw, x.lv, x.fz, rfl⟩
theorem SlOk.xx {W' : Wd} {i : Nat} {sv : SV} {a : Addr × Bool} (h : SlOk K W' σ H i sv) (n : sv ≠ .exc) : SlOk K { W' with xa := a } σ H i sv := by
  cases sv with
  | exc => exact absurd rfl n
  | dat d => exact h
  | own b => obtain ⟨p, e, o, k⟩ := h; exact ⟨p, e, o, k.kp (Same.refl _) (List.prefix_refl _) rfl⟩
  | io k => exact h
  | fl j f => exact h
/-- another error is held -/
theorem Inv.xx {c : Str → Addr} {xa a : Addr} {st : St} {σ' : L2.St} {env' : List (Option SV)} (I : Inv K (c, xa, false) W σ H st) (hl : σ'.length = env'.length) (k : ∀ i sv, env'[i]? = some (some sv) → SlOk K { W with xa := (a, false) } σ' H i sv) : Inv K (c, a, false) { W with xa := (a, false) } σ' H { st with env := env' } :=
  ⟨rfl, fun _ => I.nt (by have h : W.xa = (xa, false) := I.xeq; rw [h]), I.sub, I.out, I.inj, hl, k, fun k b e => by
    obtain ⟨p, o, kb⟩ := I.ios k b e
    exact ⟨p, o, kb.kp (Same.refl _) (List.prefix_refl _) rfl⟩, I.rlen, fun j o e => (I.obs j o e).kp (W := W) (W' := { W with xa := (a, false) }) (Same.refl _) (List.prefix_refl _) fun p t h _ => ⟨rfl, h⟩⟩
theorem sS_try {c : Str → Addr} {xa : Addr} {ex : Kv.Er → Addr} {cv : Value} {i : Nat} {tb : WX → TS} {tsu : Addr → Value → Option Addr → TS} {Wout : WX} {mb : M Fl} {ms : Kv.Er → M Fl} {hit : Kv.Er → Bool}
    (hb : ∀ Wx : WX, SimS K (c, xa, false) (fun e σ H => Wx (.ref (ex e)) none σ H) (tb Wx) mb) (hs : ∀ a er, SimS K (c, a, false) EF (tsu a (.ref (ex er)) none) (ms er)) (hm : ∀ er, PySem.W.exmOne K (.ref (ex er)) cv = some (hit er))
    (ho : ∀ e σ H, E e σ H → Wout (.ref (ex e)) none σ H) : SimS K (c, xa, false) E (fun D σ H => tb (wAs K cv i tsu Wout D) D σ H) (mTry i hit mb ms) := by
  intro W σ H st I D q
  refine hb _ W σ H st I D ?_
  unfold mTry at q
  cases e : mb st with
  | stuck => rw [e] at q; exact q
  | ok f st1 => rw [e] at q; cases f <;> exact q
  | err er st1 =>
    rw [e] at q
    dsimp only at q
    intro σ' W' H' I' x'
    refine ⟨hit er, hm er, fun hh a ha => ?_, fun hh => ?_⟩
    · rw [if_pos hh] at q
      have I2 : Inv K (c, a, false) { W' with xa := (a, false) } (σ'.set i (some (.ref a))) H' { st1 with env := (noExc st1.env).set i (some .exc) } := by
        refine I'.xx (by simp [noExc, I'.len]) fun j sv ej => ?_
        rcases set_get ej with ⟨rfl, z⟩ | ⟨cc, z⟩
        · cases z
          have hl : i < σ'.length := by
            rw [I'.len]
            have := (List.getElem?_eq_some_iff.mp ej).1
            simpa [noExc] using this
          show (σ'.set i (some (.ref a)))[i]? = _
          rw [List.getElem?_set_self hl]
        · obtain ⟨z1, z2⟩ := noExc_some z
          exact ((I'.slots j sv z1).xx z2).sig (get_set_ne cc)
      refine hs a er _ _ H' _ I2 _ ?_
      have back : ∀ {σ2 : L2.St} {W2 : Wd} {H2 : Hp} {st2 : St}, Inv K (c, a, false) W2 σ2 H2 st2 → Ext { W' with xa := (a, false) } H' W2 H2 → ∀ σ3 : L2.St, (σ3 = σ2 ∨ σ3 = σ2.set i none) → Inv K (c, xa, false) { W2 with xa := (xa, false) } σ3 H2 { st2 with env := (noExc st2.env).set i none } ∧ Ext W H { W2 with xa := (xa, false) } H2 := by
        intro σ2 W2 H2 st2 J y σ3 h3
        refine ⟨J.xx (by rcases h3 with rfl | rfl <;> simp [noExc, J.len]) fun j sv ej => ?_, ?_⟩
        · rcases set_get ej with ⟨rfl, z⟩ | ⟨cc, z⟩
          · cases z
          · obtain ⟨z1, z2⟩ := noExc_some z
            refine ((J.slots j sv z1).xx z2).sig ?_
            rcases h3 with rfl | rfl
            · rfl
            · exact get_set_ne cc
        · have := x'.trans y.sx
          have hx : W'.xa = (xa, false) := I'.xeq
          rw [hx] at this
          exact this
      cases e2 : ms er { st1 with env := (noExc st1.env).set i (some .exc) } with
      | stuck => rw [e2] at q; exact q
      | err e' st2 => rw [e2] at q; exact q.elim
      | ok f st2 =>
        rw [e2] at q
        cases f with
        | nx => exact fun σ2 W2 H2 J y => q _ _ H2 (back J y _ (.inr rfl)).1 (back J y _ (.inr rfl)).2
        | brk => exact fun σ2 W2 H2 J y => q _ _ H2 (back J y _ (.inr rfl)).1 (back J y _ (.inr rfl)).2
        | cont => exact fun σ2 W2 H2 J y => q _ _ H2 (back J y _ (.inr rfl)).1 (back J y _ (.inr rfl)).2
        | ret ev =>
          intro σ2 W2 H2 v J y kv fr
          cases ev with
          | exc => exact q.elim
          | dat d => exact q σ2 _ H2 v (back J y _ (.inl rfl)).1 (back J y _ (.inl rfl)).2 kv (fun b z => by cases z)
          | sl j => exact q σ2 _ H2 v (back J y _ (.inl rfl)).1 (back J y _ (.inl rfl)).2 kv (fun b z => by cases z)
          | io j => exact q σ2 _ H2 v (back J y _ (.inl rfl)).1 (back J y _ (.inl rfl)).2 kv (fun b z => by cases z)
          | fl j f => exact q σ2 _ H2 v (back J y _ (.inl rfl)).1 (back J y _ (.inl rfl)).2 kv (fun b z => by cases z)
          | tp b => obtain ⟨p, e, z1, z2, kb⟩ := kv; exact q σ2 _ H2 v (back J y _ (.inl rfl)).1 (back J y _ (.inl rfl)).2 ⟨p, e, z1, z2, kb.kp (Same.refl _) (List.prefix_refl _) rfl⟩ (fun b z => by obtain ⟨p, e1, e2⟩ := fr b z; exact ⟨p, e1, x'.lv p e2⟩)
    · rw [if_neg (by rw [hh]; simp)] at q
      exact ho er σ' H' (q σ' W' H' I' x')
def mTryO (hit : Kv.Er → Bool) (mb : M Fl) (ms : Kv.Er → M Fl) : M Fl := fun st => match mb st with
  | .err e st1 => if hit e = true then match ms e st1 with
      | .ok f st2 => .ok f st2
      | _ => .stuck
    else .err e st1
  | r => r
/-- try .. except X: without a name -/
theorem sS_tryO {c : Str → Addr} {xa : Addr} {ex : Kv.Er → Addr} {cv : Value} {tb : WX → TS} {tsu : Addr → Value → Option Addr → TS} {Wout : WX} {mb : M Fl} {ms : Kv.Er → M Fl} {hit : Kv.Er → Bool}
    (hb : ∀ Wx : WX, SimS K (c, xa, false) (fun e σ H => Wx (.ref (ex e)) none σ H) (tb Wx) mb) (hs : ∀ a er, SimS K (c, xa, false) EF (tsu a (.ref (ex er)) none) (ms er)) (hm : ∀ er, PySem.W.exmOne K (.ref (ex er)) cv = some (hit er))
    (ho : ∀ e σ H, E e σ H → Wout (.ref (ex e)) none σ H) : SimS K (c, xa, false) E (fun D σ H => tb (wOnly K cv tsu Wout D) D σ H) (mTryO hit mb ms) := by
  intro W σ H st I D q
  unfold mTryO at q
  refine hb _ W σ H st I D ?_
  cases e : mb st with
  | stuck => rw [e] at q; exact q
  | ok f st1 => rw [e] at q; cases f <;> exact q
  | err er st1 =>
    rw [e] at q
    dsimp only at q
    intro σ' W' H' I' x'
    refine ⟨hit er, hm er, fun hh a ha => ?_, fun hh => ?_⟩
    · rw [if_pos hh] at q
      refine hs a er _ _ H' _ I' _ ?_
      cases e2 : ms er st1 with
      | stuck => rw [e2] at q; exact q
      | err e' st2 => rw [e2] at q; exact q.elim
      | ok f st2 => rw [e2] at q; have q := ResS.ext x' q; cases f <;> exact q
    · rw [if_neg (by rw [hh]; simp)] at q
      exact ho er σ' H' (q σ' W' H' I' x')
/-- kinds(e), e the error that the suite holds -/
def mKinds (er : Kv.Er) (me : M EV) : M EV := fun st => (me st).bind fun ev st1 => match ev with
  | .exc => .ok (.dat (.lst [.str er.nm])) st1
  | _ => .stuck
theorem sE_kinds {mg : Str → Option Value} {T : Kv.Errs K mg} {c : Str → Addr} {a : Addr} {er : Kv.Er} (ha : SimE K (c, a, false) E ta ma) : SimE K (c, a, false) E (Kv.tKinds T (.ref (T.exa er)) none a (tCons ta tNil)) (mKinds er ma) := by
  intro W σ H st I Q q
  refine ha W σ H st I _ (Res.imp (Res.bind q) fun ev st1 W1 H1 hm1 I1 x1 q1 v k => ?_)
  split at q1
  · have k : v = .ref W1.xa.1 := k
    refine ⟨by rw [k, I1.xeq], rfl, er, rfl, fun r hr => ?_⟩
    obtain ⟨z1, z2⟩ := I1.free hr
    exact q1 _ _ (I1.new hr) (Ext.new I1 hr) _ (.lst (SqL.of upd_same) (.cons (.str _) .nil))
  · exact q1.elim
/-! ### isinstance -/
def tyD : D → Option String
  | .non => some "NoneType"
  | .bl _ => some "bool"
  | .int _ => some "int"
  | .str _ => some "str"
  | .lst _ => some "list"
  | .tup _ => some "tuple"
  | _ => none
def fIsi : List D → Option D
  | [x, .ty n] => match tyD x with
    | some t => (kitB t n).map .bl
    | none => none
  | _ => none
theorem ty_lst {F : Hp} {a : Addr} {vs : List V} (h : SqL K F a vs) : TyX K F (.ref a) (.type "list") := by
  rcases h with (h | ⟨o, h⟩) | ⟨o, its, n, e, c, _⟩
  · exact .base (.lst h)
  · exact .base (.frz h)
  · exact .kList e c
theorem ty_tup {F : Hp} {a : Addr} {vs : List V} (h : SqT K F a vs) : TyX K F (.ref a) (.type "tuple") := by
  rcases h with (h | ⟨o, h⟩) | ⟨o, its, n, e, c, _⟩
  · exact .base (.tup h)
  · exact .fTuple h
  · exact .kTuple e c
theorem ty_of {v : V} {d : D} {t : String} (s : Same W.F H) (k : PkOk K W H v d) (e : tyD d = some t) : TyX K H v (.type t) := by
  cases d with
  | non => cases e; cases k; exact .base .non
  | bl b => cases e; cases k; exact .base (.bl b)
  | int b => cases e; cases k; exact .base (.int b)
  | str b => cases e; cases k; exact .base (.str b)
  | ty b => cases e
  | ob b => cases e
  | lst ds => cases e; obtain ⟨a, vs, rfl, q, _⟩ := k; exact ty_lst q
  | tup ds => cases e; cases k with | tup h _ => exact ty_tup (Kv.same_tup s h)
theorem pk_isi : PkC K (rIsi K) fIsi := by
  intro W H vs ds d s ks e
  unfold fIsi at e
  split at e
  · rename_i x n
    split at e
    · rename_i t et
      cases eb : kitB t n with
      | none => rw [eb] at e; cases e
      | some b =>
        rw [eb] at e
        cases e
        cases ks with
        | cons k1 t1 =>
        cases t1 with
        | cons k2 t2 =>
        cases t2
        cases k2
        exact ⟨_, .bl b, fun Q q => ⟨_, _, .type t, .type n, b, rfl, .ty n, ty_of s k1 et, kit_ty eb, q⟩⟩
    · cases e
  · cases e
/-- isinstance(e, X), e the error that a suite holds -/
def mIsE (b : Bool) (me : M EV) : M EV := fun st => (me st).bind fun ev st1 => match ev with
  | .exc => .ok (.dat (.bl b)) st1
  | _ => .stuck
theorem sE_isE {c : Str → Addr} {a D C : Addr} {b : Bool} (hk : PySem.W.kitOne K (.ref D) (.ref C) = some b) (ha : SimE K (c, a, false) E ta ma) : SimE K (c, a, false) E (tCB (rIsE K D a) (tCons ta (tCons (tC (.ref C)) tNil))) (mIsE b ma) := by
  intro W σ H st I Q q
  refine ha W σ H st I _ (Res.imp (Res.bind q) fun ev st1 W1 H1 hm1 I1 x1 q1 v k => ?_)
  split at q1
  · have k : v = .ref W1.xa.1 := k
    exact ⟨.ref C, .ref C, b, by rw [k, I1.xeq], (fun u h => h), hk, q1.now I1 _ (.bl b)⟩
  · exact q1.elim
/-- a tuple of the module's -/
theorem sE_ct {a : Addr} {vs : List V} {ds : List D} {cl : (Str → Addr) × Addr × Bool} (h : ∀ F : Hp, SqT K F a vs) (r : ∀ F ρ, RepL K F ρ vs ds) : SimE K cl E (tC (.ref a)) (mC (.tup ds)) := fun W σ H st I Q q => q.now I _ (.tup (h _) (r _ _))
end
end Mi

set_option Elab.async false
set_option linter.all false
set_option maxRecDepth 100000
set_option maxHeartbeats 4000000
namespace Mi
open PySem PySem.Spec PyProof.Rows L2
section
variable {X : Cx}
/-! ### further rules of the layer below -/
def repS (z : Str) (n : Int) : Str := if n < 1 then Str.empty else if (n == 1 || z.length == 0) = true then z else ⟨(List.replicate n.toNat z.cps).foldl (· ++ ·) #[]⟩
theorem op_mulS : OpR X (binaryOp .Mult) (fun x y H Q => ∃ z n, x = .str z ∧ y = .int n ∧ -(2 ^ 63) ≤ n ∧ n ≤ 1000000 ∧ z.length * n.toNat ≤ 16777216 ∧ (repS z n).length ≤ sizeLine ∧ Q (.str (repS z n)) H) := by
  intro pins s σ H x y v u Q I rx ry h
  obtain ⟨z, n, rfl, rfl, h1, h2, h3, h4, q⟩ := h
  obtain ⟨t, rfl⟩ := rx
  obtain ⟨t', rfl⟩ := ry
  refine PySem.P.mul_str ?_ ?_ ?_ ?_
  · rw [decide_eq_false (by omega), decide_eq_false (by omega)]; rfl
  · intro hn _
    have hz : z.length ≤ 16777216 := by
      have : z.length * 1 ≤ z.length * n.toNat := Nat.mul_le_mul_left _ (by omega)
      omega
    have : (16777216 : Int) ≤ (2 ^ 63 - 1) / n := by
      refine Int.le_ediv_of_mul_le (by omega) ?_
      omega
    omega
  · intro hn _
    unfold Builtin.Str.tooLong
    have : sizeLine = 16777216 := by decide
    rw [decide_eq_false (by rw [this]; omega)]
  · unfold repS at q h4
    split
    · rename_i c
      rw [if_pos c] at q
      exact ⟨by decide, .str _, H, I.tok _, ⟨_, rfl⟩, q⟩
    · rename_i c
      rw [if_neg c] at q h4
      split
      · rename_i c2
        rw [if_pos c2] at q
        exact ⟨.str _, H, I, ⟨_, rfl⟩, q⟩
      · rename_i c2
        rw [if_neg c2] at q h4
        exact ⟨h4, .str _, H, I.tok _, ⟨_, rfl⟩, q⟩

theorem mt_ljustF : MtR X "str.ljust" (fun x xs H Q => ∃ (a f : Str) (i : Int), x = .str a ∧ xs = [.int i, .str f] ∧ PadOk i = true ∧ f.length = 1 ∧ Q (.str (Txt.ljustF a i (f.cps.getD 0 0))) H) := by
  intro pins s σ H x xs v us Q I rx rs h
  obtain ⟨a, f, i, rfl, rfl, hp, hf, h⟩ := h
  obtain ⟨t, rfl⟩ := rx
  cases rs with
  | cons r1 rs =>
    cases rs with
    | cons r2 rs =>
      cases rs
      obtain ⟨u, rfl⟩ := r1
      obtain ⟨z, rfl⟩ := r2
      exact PyProof.Rows.ljust_fill hp hf fun t' k => ⟨.str _, H, I.tok k, ⟨t', rfl⟩, h⟩
end
section
variable {K : Frag} {cl : (Str → Addr) × Addr × Bool} {E : Kv.Er → L2.St → Hp → Prop} {W : Wd} {σ : L2.St} {H : Hp} {ta tb tc : TE} {ma mb mc : M EV}
theorem hE0 {m : Fn} {e : Kv.Er} (h : ∃ as bs S io S', noErrF m as bs S = .err e io S') : False := by
  obtain ⟨_, _, _, _, _, h⟩ := h; exact noErrF_ne h
theorem sE_callS {c : Str → Addr} {xa : Addr} {ex : Kv.Er → Addr} {X : L2.St → XK} {n : Nat} {m : Fn} {t : TA} {mt : M (List EV)} (hE : ∀ e σ H, (∃ as bs S io S', m as bs S = .err e io S') → E e σ H → X σ (.ref (ex e)) none H) (ha : SimA K (c, xa, false) E t mt) : SimE K (c, xa, false) E (tCallS (spM K c ex n m) X t) (mCall n m mt) := by
  have := sE_call (X := X) (ex := ex) (n := n) hE ha
  simp only [List.append_nil] at this
  exact this
theorem sN_callS {c : Str → Addr} {xa : Addr} {ex : Kv.Er → Addr} {X : L2.St → XK} {n : Nat} {m : Fn} {t : TA} {mt : M (List EV)} (hE : ∀ e σ H, (∃ as bs S io S', m as bs S = .err e io S') → E e σ H → X σ (.ref (ex e)) none H) (ha : SimA K (c, xa, false) E t mt) : SimN K (c, xa, false) E (tCallS (spM K c ex n m) X t) (mCallN n m mt) := by
  have := sN_call (X := X) (ex := ex) (n := n) hE ha
  simp only [List.append_nil] at this
  exact this
/-! ### further texts -/
def fMulS : D → D → Option D
  | .str z, .int n => if -(2 ^ 63) ≤ n ∧ n ≤ 1000000 ∧ z.length * n.toNat ≤ 16777216 ∧ (repS z n).length ≤ sizeLine then some (.str (repS z n)) else none
  | _, _ => none
theorem pk_mulS : PkOp K (fun x y H Q => ∃ z n, x = .str z ∧ y = .int n ∧ -(2 ^ 63) ≤ n ∧ n ≤ 1000000 ∧ z.length * n.toNat ≤ 16777216 ∧ (repS z n).length ≤ sizeLine ∧ Q (.str (repS z n)) H) fMulS := PkOp.sc fun x y d e => by
  unfold fMulS at e
  split at e
  · split at e
    · rename_i c; cases e; exact ⟨_, _, _, rfl, rfl, rfl, fun H Q q => ⟨_, _, rfl, rfl, c.1, c.2.1, c.2.2.1, c.2.2.2, q⟩⟩
    · cases e
  · cases e
def fStartswith : D → D → Option D
  | .str a, .str b => some (.bl (Txt.startswith a b))
  | _, _ => none
theorem pk_startswith : PkM1 K (fun x xs H Q => ∃ a b, x = .str a ∧ xs = [.str b] ∧ Q (.bl (Txt.startswith a b)) H) fStartswith := by
  intro W H vx vy x y d s kx ky e
  unfold fStartswith at e
  split at e
  · cases e; cases kx; cases ky; exact ⟨_, .bl _, fun Q q => ⟨_, _, rfl, rfl, q⟩⟩
  · cases e
def fRemoveprefix : D → D → Option D
  | .str a, .str b => if a.length ≤ sizeLine then some (.str (Txt.removeprefix a b)) else none
  | _, _ => none
theorem pk_removeprefix : PkM1 K (fun x xs H Q => ∃ a b, x = .str a ∧ xs = [.str b] ∧ a.length ≤ sizeLine ∧ Q (.str (Txt.removeprefix a b)) H) fRemoveprefix := by
  intro W H vx vy x y d s kx ky e
  unfold fRemoveprefix at e
  split at e
  · split at e
    · rename_i c; cases e; cases kx; cases ky; exact ⟨_, .str _, fun Q q => ⟨_, _, rfl, rfl, c, q⟩⟩
    · cases e
  · cases e
def fRemovesuffix : D → D → Option D
  | .str a, .str b => if a.length ≤ sizeLine then some (.str (Txt.removesuffix a b)) else none
  | _, _ => none
theorem pk_removesuffix : PkM1 K (fun x xs H Q => ∃ a b, x = .str a ∧ xs = [.str b] ∧ a.length ≤ sizeLine ∧ Q (.str (Txt.removesuffix a b)) H) fRemovesuffix := by
  intro W H vx vy x y d s kx ky e
  unfold fRemovesuffix at e
  split at e
  · split at e
    · rename_i c; cases e; cases kx; cases ky; exact ⟨_, .str _, fun Q q => ⟨_, _, rfl, rfl, c, q⟩⟩
    · cases e
  · cases e
/-- two arguments -/
def PkM2 (K : Frag) (r : V → List V → Hp → VK → Prop) (f : D → D → D → Option D) : Prop := ∀ (x y z d : D), f x y z = some d → ∃ vx vy vz vd, scV x = some vx ∧ scV y = some vy ∧ scV z = some vz ∧ scV d = some vd ∧ ∀ (H : Hp) (Q : VK), Q vd H → r vx [vy, vz] H Q
def mM2 (f : D → D → D → Option D) (ma mb mc : M EV) : M EV := fun st => (ma st).bind fun a st1 => match a with
  | .dat (.str z) => (mb st1).bind fun b st2 => (mc st2).bind fun c st3 => match b, c with
    | .dat y, .dat w => match f (.str z) y w with
      | some d => .ok (.dat d) st3
      | none => .stuck
    | _, _ => .stuck
  | _ => .stuck
theorem sE_tBM2 {r : V → List V → Hp → VK → Prop} {f : D → D → D → Option D} (hr : PkM2 K r f) (ha : SimE K cl E ta ma) (hb : SimE K cl E tb mb) (hc : SimE K cl E tc mc) : SimE K cl E (tBM K "str" r ta (tCons tb (tCons tc tNil))) (mM2 f ma mb mc) := by
  intro W σ H st I Q q
  refine ha W σ H st I _ (Res.imp (Res.bind q) fun a st1 W1 H1 hm1 I1 x1 q1 va ka => ?_)
  split at q1
  · rename_i z
    cases ka
    refine ⟨rfl, hb W1 σ H1 st1 I1 _ (Res.imp (Res.bind q1) fun b st2 W2 H2 hm2 I2 x2 q2 vb kb => ?_)⟩
    refine hc W2 σ H2 st2 I2 _ (Res.imp (Res.bind q2) fun c st3 W3 H3 hm3 I3 x3 q3 vc kc => ?_)
    replace kb := kb.ext x3
    split at q3
    · rename_i y w
      split at q3
      · rename_i d e
        obtain ⟨vx, vy, vz, vd, e1, e2, e3, e4, k⟩ := hr _ _ _ _ e
        cases e1
        rw [scV_rep e2 kb, scV_rep e3 kc]
        exact k H3 Q (q3.now I3 _ (scV_mk e4))
      · exact q3.elim
    · exact q3.elim
  · exact q1.elim
def fLjust2 : D → D → D → Option D
  | .str a, .int i, .str f => if PadOk i = true ∧ f.length = 1 then some (.str (Txt.ljustF a i (f.cps.getD 0 0))) else none
  | _, _, _ => none
theorem pk_ljust2 : PkM2 K (fun x xs H Q => ∃ (a f : Str) (i : Int), x = .str a ∧ xs = [.int i, .str f] ∧ PadOk i = true ∧ f.length = 1 ∧ Q (.str (Txt.ljustF a i (f.cps.getD 0 0))) H) fLjust2 := by
  intro x y z d e
  unfold fLjust2 at e
  split at e
  · split at e
    · rename_i c; cases e; exact ⟨_, _, _, _, rfl, rfl, rfl, rfl, fun H Q q => ⟨_, _, _, rfl, rfl, c.1, c.2, q⟩⟩
    · cases e
  · cases e
def mPartition (ma mb : M EV) : M EV := fun st => (ma st).bind fun a st1 => match a with
  | .dat (.str z) => (mb st1).bind fun b st2 => match b with
    | .dat (.str y) => if (y.length == 0) = false ∧ z.length ≤ sizeLine then .ok (.dat (.tup [.str (Txt.partition z y).1, .str (Txt.partition z y).2.1, .str (Txt.partition z y).2.2])) st2 else .stuck
    | _ => .stuck
  | _ => .stuck
theorem sE_partition (ha : SimE K cl E ta ma) (hb : SimE K cl E tb mb) : SimE K cl E (tM1 (fun x xs H Q => ∃ a b, x = .str a ∧ xs = [.str b] ∧ (b.length == 0) = false ∧ a.length ≤ sizeLine ∧
      ∀ p, H p = none → Q (.ref p) (upd H p (.tup [.str (Txt.partition a b).1, .str (Txt.partition a b).2.1, .str (Txt.partition a b).2.2]))) ta tb) (mPartition ma mb) := by
  intro W σ H st I Q q
  refine ha W σ H st I _ (Res.imp (Res.bind q) fun a st1 W1 H1 hm1 I1 x1 q1 va ka => ?_)
  split at q1
  · rename_i z
    cases ka
    refine ⟨⟨_, rfl⟩, hb W1 σ H1 st1 I1 _ (Res.imp (Res.bind q1) fun b st2 W2 H2 hm2 I2 x2 q2 vb kb => ?_)⟩
    split at q2
    · rename_i y
      cases kb
      split at q2
      · rename_i c
        refine ⟨z, y, rfl, rfl, c.1, c.2, fun p hp => ?_⟩
        exact q2 _ _ (I2.new hp) (Ext.new I2 hp) _ (.tup (SqT.of upd_same) (.cons (.str _) (.cons (.str _) (.cons (.str _) .nil))))
      · exact q2.elim
    · exact q2.elim
  · exact q1.elim
def mSplit (ma mb : M EV) : M BX := fun st => (ma st).bind fun a st1 => match a with
  | .dat (.str z) => (mb st1).bind fun b st2 => match b with
    | .dat (.str y) => if (y.length == 0) = false ∧ z.length + 2 ≤ sizeLine then .ok (.lst ((Txt.split z y).map .str)) st2 else .stuck
    | _ => .stuck
  | _ => .stuck
theorem repL_strs {F : Hp} {ρ : List Addr} : ∀ ys : List Str, RepL K F ρ (ys.map V.str) (ys.map D.str)
  | [] => .nil
  | y :: r => .cons (.str y) (repL_strs r)
theorem sN_split (ha : SimE K cl E ta ma) (hb : SimE K cl E tb mb) : SimN K cl E (tM1 (fun x xs H Q => ∃ a b, x = .str a ∧ xs = [.str b] ∧ (b.length == 0) = false ∧ a.length + 2 ≤ sizeLine ∧ rNewStrs (Txt.split a b) H Q) ta tb) (mSplit ma mb) := by
  intro W σ H st I Q q
  refine ha W σ H st I _ (Res.imp (Res.bind q) fun a st1 W1 H1 hm1 I1 x1 q1 va ka => ?_)
  split at q1
  · rename_i z
    cases ka
    refine ⟨⟨_, rfl⟩, hb W1 σ H1 st1 I1 _ (Res.imp (Res.bind q1) fun b st2 W2 H2 hm2 I2 x2 q2 vb kb => ?_)⟩
    split at q2
    · rename_i y
      cases kb
      split at q2
      · rename_i c
        refine ⟨z, y, rfl, rfl, c.1, c.2, fun p hp => ?_⟩
        obtain ⟨z1, z2⟩ := I2.free hp
        exact q2 _ _ (I2.new0 hp) (Ext.new0 hp) p (x1.lv p (x2.lv p hp)) z2 z1 ⟨_, upd_same, repL_strs _⟩
      · exact q2.elim
    · exact q2.elim
  · exact q1.elim
/-! ### tuples joined -/
def mCatA (ma mb : M EV) : M EV := fun st => (ma st).bind fun a st1 => (mb st1).bind fun b st2 => match a, b with
  | .dat (.tup xs), .dat (.tup ys) => if xs.length + ys.length ≤ sizeLine then .ok (.dat (.tup (xs ++ ys))) st2 else .stuck
  | _, _ => .stuck
theorem sE_catA (ha : SimE K cl E ta ma) (hb : SimE K cl E tb mb) : SimE K cl E (tOp (rCatA K) ta tb) (mCatA ma mb) := by
  intro W σ H st I Q q
  refine ha W σ H st I _ (Res.imp (Res.bind q) fun a st1 W1 H1 hm1 I1 x1 q1 va ka => ?_)
  refine hb W1 σ H1 st1 I1 _ (Res.imp (Res.bind q1) fun b st2 W2 H2 hm2 I2 x2 q2 vb kb => ?_)
  replace ka := ka.ext x2
  split at q2
  · rename_i xs ys
    split at q2
    · rename_i c
      cases ka with
      | @tup a vs _ ht r =>
      cases kb with
      | @tup b us _ ht2 r2 =>
      refine ⟨a, b, vs, us, rfl, rfl, Kv.same_tup I2.sub ht, Kv.same_tup I2.sub ht2, by rw [r.len, r2.len]; exact c, fun e => ?_, fun e e2 => ?_, fun e e2 p hp => ?_⟩
      · subst e
        cases r
        exact q2.now I2 _ (.tup ht2 r2)
      · subst e2
        cases r2
        rw [List.append_nil] at q2
        exact q2.now I2 _ (.tup ht r)
      · exact q2 _ _ (I2.new hp) (Ext.new I2 hp) _ (.tup (SqT.of upd_same) ((r.append r2).mono (Kv.same_upd (I2.free hp).2) (List.prefix_refl _)))
    · exact q2.elim
  · exact q2.elim
/-! ### a, b = x, y -/
def mPar (i j : Nat) (ma : M (List EV)) : M Fl := fun st => (ma st).bind fun evs st1 => match dats evs with
  | some [x, y] => .ok .nx { st1 with env := (st1.env.set i (some (.dat x))).set j (some (.dat y)) }
  | _ => .stuck
theorem sS_par {i j : Nat} {t : TA} {mt : M (List EV)} (ha : SimA K cl E t mt) : SimS K cl E (tPar i j t) (mPar i j mt) := by
  intro W σ H st I D q
  refine ha W σ H st I _ (Res.imp (ResS.bind q) fun evs st1 W1 H1 hm1 I1 x1 q1 vs ks _ => ?_)
  split at q1
  · rename_i x y e
    have r := dats_ok ks e
    cases r with
    | cons r1 r =>
    cases r with
    | cons r2 r =>
    cases r
    refine ⟨_, _, rfl, ?_⟩
    have I2 := put_dat (i := i) I1 r1
    have I3 := put_dat (i := j) I2 (v := _) (d := y) (by exact r2)
    exact q1 _ _ H1 I3 (Ext.drop.trans Ext.drop)
  · exact q1.elim
def mPar3 (i j k : Nat) (ma : M (List EV)) : M Fl := fun st => (ma st).bind fun evs st1 => match dats evs with
  | some [x, y, z] => .ok .nx { st1 with env := ((st1.env.set i (some (.dat x))).set j (some (.dat y))).set k (some (.dat z)) }
  | _ => .stuck
end
end Mi

set_option Elab.async false
set_option linter.all false
set_option maxRecDepth 100000
set_option maxHeartbeats 4000000
namespace Mi
open PySem PySem.Spec PyProof.Rows L2
/-! ### what a function does, told by hand -/
/-- a block's ends: it goes on; it hands back -/
def Goes (r : R Fl) (N : St → Prop) (Rt : EV → St → Prop) : Prop := match r with
  | .ok .nx st => N st
  | .ok (.ret ev) st => Rt ev st
  | _ => False
theorem Goes.imp {r : R Fl} {N N' : St → Prop} {Rt Rt' : EV → St → Prop} (h : Goes r N Rt) (n : ∀ st, N st → N' st) (t : ∀ ev st, Rt ev st → Rt' ev st) : Goes r N' Rt' := by
  cases r with
  | ok f st => cases f <;> first | exact n _ h | exact t _ _ h | exact h
  | err e st => exact h
  | stuck => exact h
theorem Goes.nx {r : R Fl} {N : St → Prop} (h : Goes r N fun _ _ => False) : ∃ st, r = .ok .nx st ∧ N st := by
  cases r with
  | ok f st => cases f <;> first | exact ⟨_, rfl, h⟩ | exact h.elim
  | err e st => exact h.elim
  | stuck => exact h.elim
theorem goes_seq {m1 m2 : M Fl} {st : St} {N : St → Prop} {Rt : EV → St → Prop} (h : Goes (m1 st) (fun st1 => Goes (m2 st1) N Rt) Rt) : Goes (mSeq m1 m2 st) N Rt := by
  unfold mSeq
  cases e : m1 st with
  | ok f st1 => rw [e] at h; cases f <;> exact h
  | err e' st1 => rw [e] at h; exact h
  | stuck => rw [e] at h; exact h
/-- a loop: I of the turn -/
theorem goes_for {chk : St → Prop} {mg : EV → M Unit} {mb : M Fl} {N : St → Prop} {Rt : EV → St → Prop} (I : Nat → St → Prop) : ∀ (ds : List D) (k : Nat) (st : St), I k st → (∀ i st, I i st → chk st) →
    (∀ i d st, k ≤ i → ds[i - k]? = some d → I i st → ∃ st1, mg (.dat d) st = .ok () st1 ∧ Goes (mb st1) (I (i + 1)) Rt) → (∀ st, I (k + ds.length) st → N st) → Goes (forL chk mg mb ds st) N Rt
  | [], k, st, h, hc, _, hd => by
    unfold forL
    rw [if_pos (hc k st h)]
    exact hd st (by simpa using h)
  | d :: r, k, st, h, hc, hs, hd => by
    unfold forL
    rw [if_pos (hc k st h)]
    obtain ⟨st1, e1, g⟩ := hs k d st (Nat.le_refl k) (by simp) h
    rw [e1]
    show Goes ((mb st1).bind _) N Rt
    cases e2 : mb st1 with
    | ok f st2 =>
      rw [e2] at g
      cases f with
      | nx => exact goes_for I r (k + 1) st2 g hc (fun i d' st' hi e => hs i d' st' (by omega) (by rw [show i - k = (i - (k + 1)) + 1 by omega]; exact e)) (fun st' h' => hd st' (by rw [List.length_cons, show k + (r.length + 1) = k + 1 + r.length by omega]; exact h'))
      | ret ev => exact g
      | brk => exact g.elim
      | cont => exact g.elim
    | err e' st2 => rw [e2] at g; exact g.elim
    | stuck => rw [e2] at g; exact g.elim
/-- a comprehension without a test: G of each element -/
theorem lc_run {vs : List Nat} {chk : St → Prop} [∀ st, Decidable (chk st)] {mg : EV → M Unit} {me : M EV} {I : St → Prop} (G : Nat → D → Prop) : ∀ (ds acc : List D) (k : Nat) (st : St), I st → acc.length = k → k + ds.length ≤ sizeLine → (∀ i d, acc[i]? = some d → G i d) → (∀ st, I st → chk (st.wiped vs)) →
    (∀ i d st, k ≤ i → ds[i - k]? = some d → I st → ∃ st1 ev st2 x st3, mg (.dat d) (st.wiped vs) = .ok () st1 ∧ me st1 = .ok ev st2 ∧ toD ev st2 = .ok x st3 ∧ I st3 ∧ G i x) →
    ∃ xs st', lcL vs chk mg (M.pure true) me ds acc st = .ok xs st' ∧ I st' ∧ xs.length = k + ds.length ∧ ∀ i d, xs[i]? = some d → G i d
  | [], acc, k, st, h, ha, _, hg, hc, _ => by
    unfold lcL
    rw [if_pos (hc st h)]
    exact ⟨acc, st, rfl, h, by simpa using ha, hg⟩
  | d :: r, acc, k, st, h, ha, hl, hg, hc, hs => by
    unfold lcL
    rw [if_pos (hc st h)]
    obtain ⟨st1, ev, st2, x, st3, e1, e2, e3, h3, g⟩ := hs k d st (Nat.le_refl k) (by simp) h
    rw [e1]
    have hl' : acc.length < sizeLine := by rw [List.length_cons] at hl; omega
    obtain ⟨xs, st', e4, h4, l4, g4⟩ := lc_run (I := I) (mg := mg) (me := me) G r (acc ++ [x]) (k + 1) st3 h3 (by simp [ha]) (by rw [List.length_cons] at hl; omega) (fun i d' e => by
      rcases Nat.lt_or_ge i acc.length with c | c
      · rw [List.getElem?_append_left c] at e; exact hg i d' e
      · have : i = k := by
          have := (List.getElem?_eq_some_iff.mp e).1
          simp at this
          omega
        subst this
        rw [List.getElem?_append_right (by omega), ha, Nat.sub_self] at e
        cases e
        exact g) hc (fun i d' st' hi e => hs i d' st' (by omega) (by rw [show i - k = (i - (k + 1)) + 1 by omega]; exact e))
    refine ⟨xs, st', ?_, h4, by rw [l4, List.length_cons]; omega, g4⟩
    simp only [R.bind, M.pure, if_pos, e2, e3]
    rw [if_pos hl']
    exact e4
/-! ### the law -/
theorem law_imp {K : Frag} {c : Str → Addr} {ex : Kv.Er → Addr} {m : Fn} (h : ∀ ns : List Int, ns.length ≤ 63 → (∀ z ∈ ns, Builtin.Int.intBits z ≤ 1048576) → ∃ io S, m [.dat (.lst (ns.map D.int))] [] [] = .ok (.dat (.bl true)) io S) (vs : List V) (H : Hp) (Q : VK) (E : XK) (q : Kv.spLaw K vs H Q E) : spM K c ex 1 m vs H Q E := by
  obtain ⟨a, ns, rfl, hS, hl, hb, hq⟩ := q
  obtain ⟨io, S, e⟩ := h ns hl hb
  have ri : ∀ (ρ : List Addr) (ns : List Int), RepL K H ρ (ns.map V.int) (ns.map D.int) := fun ρ ns => by
    induction ns with
    | nil => exact .nil
    | cons n r ih => exact .cons (.int n) ih
  refine ⟨rfl, 0, ⟨H, [], fun _ => none, (0, false)⟩, [], [], [.dat (.lst (ns.map D.int))], ⟨rfl, (fun _ _ _ h => by cases h), Same.refl _, (fun p t h => by cases h), (fun p q t h => by cases h), rfl, (fun i sv e => by simp at e), (fun k b e => by simp at e), rfl, (fun j o e => by simp at e)⟩, (fun p i h => by cases h), .cons (.lst hS (ri [] ns)) .nil, ?_⟩
  rw [e]
  intro W' H' v _ _ r
  cases r
  exact hq H'

/-! ### readings of the functions -/
def Rp {α : Type} (r : R α) (k : α → St → Prop) (e : Kv.Er → St → Prop) : Prop := match r with
  | .ok a st => k a st
  | .err x st => e x st
  | .stuck => False
section
variable {α β : Type} {k : α → St → Prop} {e : Kv.Er → St → Prop} {st : St}
theorem rp_ok {a : α} : Rp (.ok a st) k e = k a st := rfl
theorem rp_err {x : Kv.Er} : Rp (α := α) (.err x st) k e = e x st := rfl
theorem rp_stuck : Rp (α := α) .stuck k e = False := rfl
theorem rp_bind {r : R β} {f : β → St → R α} : Rp (r.bind f) k e = Rp r (fun a st1 => Rp (f a st1) k e) e := by cases r <;> rfl
theorem rp_ite {c : Prop} [Decidable c] {a b : R α} : Rp (if c then a else b) k e = if c then Rp a k e else Rp b k e := by split <;> rfl
theorem rp_imp {r : R α} {k' : α → St → Prop} {e' : Kv.Er → St → Prop} (h : Rp r k e) (hk : ∀ a st, k a st → k' a st) (he : ∀ x st, e x st → e' x st) : Rp r k' e' := by
  cases r with
  | ok a st => exact hk _ _ h
  | err x st => exact he _ _ h
  | stuck => exact h
end
section
variable {k : EV → St → Prop} {kb : Bool → St → Prop} {kf : Fl → St → Prop} {kx : BX → St → Prop} {ku : Unit → St → Prop} {ka : List EV → St → Prop} {e : Kv.Er → St → Prop} {st : St} {ma mb mc : M EV} {mt m1' m2' : M Bool} {mn : M BX} {ml : M (List EV)} {m1 m2 : M Fl} {mg : EV → M Unit}
theorem rp_pure {α : Type} {a : α} {k : α → St → Prop} : Rp (M.pure a st) k e = k a st := rfl
theorem rp_c {d : D} : Rp (mC d st) k e = k (.dat d) st := rfl
theorem rp_pk {f : D → D → Option D} : Rp (mPk f ma mb st) k e = Rp (ma st) (fun a st1 => Rp (mb st1) (fun b st2 => ∃ x, peek st2 a = some x ∧ ∃ y, peek st2 b = some y ∧ ∃ d, f x y = some d ∧ k (.dat d) st2) e) e := by
  unfold mPk
  rw [rp_bind]
  congr 1
  funext a st1
  rw [rp_bind]
  congr 1
  funext b st2
  cases peek st2 a with
  | none => simp [Rp]
  | some x =>
    cases peek st2 b with
    | none => simp [Rp]
    | some y => cases h : f x y <;> simp [Rp, h]
theorem rp_pkC {f : List D → Option D} : Rp (mPkC f ml st) k e = Rp (ml st) (fun evs st1 => ∃ ds, peeks st1 evs = some ds ∧ ∃ d, f ds = some d ∧ k (.dat d) st1) e := by
  unfold mPkC
  rw [rp_bind]
  congr 1
  funext evs st1
  cases peeks st1 evs with
  | none => simp [Rp]
  | some ds => cases h : f ds <;> simp [Rp, h]
theorem rp_un {f : D → Option D} : Rp (mUn f ma st) k e = Rp (ma st) (fun a st1 => ∃ x, peek st1 a = some x ∧ ∃ d, f x = some d ∧ k (.dat d) st1) e := by
  unfold mUn
  rw [rp_bind]
  congr 1
  funext a st1
  cases peek st1 a with
  | none => simp [Rp]
  | some x => cases h : f x <;> simp [Rp, h]
theorem rp_m1 {f : D → D → Option D} : Rp (mM1 f ma mb st) k e = Rp (ma st) (fun a st1 => ∃ z, a = .dat (.str z) ∧ Rp (mb st1) (fun b st2 => ∃ y, peek st2 b = some y ∧ ∃ d, f (.str z) y = some d ∧ k (.dat d) st2) e) e := by
  unfold mM1
  rw [rp_bind]
  congr 1
  funext a st1
  split
  · rename_i z
    rw [rp_bind]
    simp only [EV.dat.injEq, D.str.injEq, exists_eq_left']
    congr 1
    funext b st2
    cases peek st2 b with
    | none => simp [Rp]
    | some y => cases h : f (.str z) y <;> simp [Rp, h]
  · rename_i h
    simp only [Rp, eq_iff_iff, false_iff]
    rintro ⟨z, rfl, _⟩
    exact h z rfl
theorem rp_m0 {f : Str → Option D} : Rp (mM0 f ma st) k e = Rp (ma st) (fun a st1 => ∃ z, a = .dat (.str z) ∧ ∃ d, f z = some d ∧ k (.dat d) st1) e := by
  unfold mM0
  rw [rp_bind]
  congr 1
  funext a st1
  split
  · rename_i z
    simp only [EV.dat.injEq, D.str.injEq, exists_eq_left']
    cases h : f z <;> simp [Rp, h]
  · rename_i h
    simp only [Rp, eq_iff_iff, false_iff]
    rintro ⟨z, rfl, _⟩
    exact h z rfl
theorem rp_m2 {f : D → D → D → Option D} : Rp (mM2 f ma mb mc st) k e = Rp (ma st) (fun a st1 => ∃ z, a = .dat (.str z) ∧ Rp (mb st1) (fun b st2 => Rp (mc st2) (fun c st3 => ∃ y, b = .dat y ∧ ∃ w, c = .dat w ∧ ∃ d, f (.str z) y w = some d ∧ k (.dat d) st3) e) e) e := by
  unfold mM2
  rw [rp_bind]
  congr 1
  funext a st1
  split
  · rename_i z
    rw [rp_bind]
    simp only [EV.dat.injEq, D.str.injEq, exists_eq_left']
    congr 1
    funext b st2
    rw [rp_bind]
    congr 1
    funext c st3
    split
    · rename_i y w
      simp only [EV.dat.injEq, exists_eq_left']
      cases h : f (.str z) y w <;> simp [Rp, h]
    · rename_i h
      simp only [Rp, eq_iff_iff, false_iff]
      rintro ⟨y, rfl, w, rfl, _⟩
      exact h y w rfl rfl
  · rename_i h
    simp only [Rp, eq_iff_iff, false_iff]
    rintro ⟨z, rfl, _⟩
    exact h z rfl
theorem rp_partition : Rp (mPartition ma mb st) k e = Rp (ma st) (fun a st1 => ∃ z, a = .dat (.str z) ∧ Rp (mb st1) (fun b st2 => ∃ y, b = .dat (.str y) ∧ ((y.length == 0) = false ∧ z.length ≤ sizeLine) ∧ k (.dat (.tup [.str (Txt.partition z y).1, .str (Txt.partition z y).2.1, .str (Txt.partition z y).2.2])) st2) e) e := by
  unfold mPartition
  rw [rp_bind]
  congr 1
  funext a st1
  split
  · rename_i z
    rw [rp_bind]
    simp only [EV.dat.injEq, D.str.injEq, exists_eq_left']
    congr 1
    funext b st2
    split
    · rename_i y
      simp only [EV.dat.injEq, D.str.injEq, exists_eq_left']
      split
      · rename_i c; simp [Rp, c]
      · rename_i c; simp only [Rp, eq_iff_iff, false_iff]; exact fun z => c z.1
    · rename_i h
      simp only [Rp, eq_iff_iff, false_iff]
      rintro ⟨y, rfl, _⟩
      exact h y rfl
  · rename_i h
    simp only [Rp, eq_iff_iff, false_iff]
    rintro ⟨z, rfl, _⟩
    exact h z rfl
theorem rp_cons : Rp (mCons ma ml st) ka e = Rp (ma st) (fun ev st1 => notTp ev = true ∧ Rp (ml st1) (fun evs st2 => ka (ev :: evs) st2) e) e := by
  unfold mCons
  rw [rp_bind]
  congr 1
  funext ev st1
  rw [rp_ite]
  split
  · rename_i c; rw [rp_bind]; simp [c]; rfl
  · rename_i c; simp [Rp, c]
theorem rp_consN : Rp (mConsN mn ml st) ka e = Rp (mn st) (fun b st1 => Rp (ml st1) (fun evs st2 => ka (.tp b :: evs) st2) e) e := by
  unfold mConsN
  rw [rp_bind]
  congr 1
  funext ev st1
  rw [rp_bind]
  rfl
theorem rp_d : Rp (mD ma st) k e = Rp (ma st) (fun ev st1 => Rp (toD ev st1) (fun d st2 => k (.dat d) st2) e) e := by
  unfold mD
  rw [rp_bind]
  congr 1
  funext ev st1
  rw [rp_bind]
  rfl
theorem rp_frz : Rp (mFrz mn st) k e = Rp (mn st) (fun b st1 => ∃ ds, b = .lst ds ∧ k (.dat (.lst ds)) st1) e := by
  unfold mFrz
  rw [rp_bind]
  congr 1
  funext b st1
  cases b <;> simp [Rp]
theorem rp_tup : Rp (mTup ml st) k e = Rp (ml st) (fun evs st1 => ∃ ds, dats evs = some ds ∧ ds.length ≤ sizeLine ∧ k (.dat (.tup ds)) st1) e := by
  unfold mTup
  rw [rp_bind]
  congr 1
  funext evs st1
  cases dats evs with
  | none => simp [Rp]
  | some ds => simp only [Option.some.injEq, exists_eq_left']; split <;> simp [Rp, *]
theorem rp_lst : Rp (mLst ml st) kx e = Rp (ml st) (fun evs st1 => ∃ ds, dats evs = some ds ∧ ds.length ≤ sizeLine ∧ kx (.lst ds) st1) e := by
  unfold mLst
  rw [rp_bind]
  congr 1
  funext evs st1
  cases dats evs with
  | none => simp [Rp]
  | some ds => simp only [Option.some.injEq, exists_eq_left']; split <;> simp [Rp, *]
theorem rp_new2 {f : D → D → Option (List D)} : Rp (mNew2 f ma mb st) kx e = Rp (ma st) (fun a st1 => Rp (mb st1) (fun b st2 => ∃ x, peek st2 a = some x ∧ ∃ y, peek st2 b = some y ∧ ∃ ds, f x y = some ds ∧ kx (.lst ds) st2) e) e := by
  unfold mNew2
  rw [rp_bind]
  congr 1
  funext a st1
  rw [rp_bind]
  congr 1
  funext b st2
  cases peek st2 a with
  | none => simp [Rp]
  | some x =>
    cases peek st2 b with
    | none => simp [Rp]
    | some y => cases h : f x y <;> simp [Rp, h]
theorem rp_newC {f : List D → Option (List D)} : Rp (mNewC f ml st) kx e = Rp (ml st) (fun evs st1 => ∃ ds, peeks st1 evs = some ds ∧ ∃ d, f ds = some d ∧ kx (.lst d) st1) e := by
  unfold mNewC
  rw [rp_bind]
  congr 1
  funext evs st1
  cases peeks st1 evs with
  | none => simp [Rp]
  | some ds => cases h : f ds <;> simp [Rp, h]
theorem rp_part {ko : Option Int → St → Prop} : Rp (mPart ma st) ko e = Rp (ma st) (fun a st1 => ∃ i, a = .dat (.int i) ∧ ko (some i) st1) e := by
  unfold mPart
  rw [rp_bind]
  congr 1
  funext a st1
  split
  · simp [Rp]
  · rename_i h
    simp only [Rp, eq_iff_iff, false_iff]
    rintro ⟨z, rfl, _⟩
    exact h z rfl
theorem rp_slL {ml mh : M (Option Int)} : Rp (mSlL ma ml mh st) kx e = Rp (ma st) (fun a st1 => Rp (ml st1) (fun lo st2 => Rp (mh st2) (fun hi st3 => ∃ ds, peek st3 a = some (.lst ds) ∧ kx (.lst (cutD ds lo hi)) st3) e) e) e := by
  unfold mSlL
  rw [rp_bind]
  congr 1
  funext a st1
  rw [rp_bind]
  congr 1
  funext lo st2
  rw [rp_bind]
  congr 1
  funext hi st3
  split
  · rename_i ds h; simp [Rp, h]
  · rename_i h
    simp only [Rp, eq_iff_iff, false_iff]
    rintro ⟨z, e, _⟩
    exact h z e
theorem rp_slS {ml mh : M (Option Int)} : Rp (mSlS ma ml mh st) k e = Rp (ma st) (fun a st1 => Rp (ml st1) (fun lo st2 => Rp (mh st2) (fun hi st3 => ∃ z, a = .dat (.str z) ∧ z.length ≤ sizeLine ∧ k (.dat (.str (cutS z lo hi))) st3) e) e) e := by
  unfold mSlS
  rw [rp_bind]
  congr 1
  funext a st1
  rw [rp_bind]
  congr 1
  funext lo st2
  rw [rp_bind]
  congr 1
  funext hi st3
  split
  · rename_i z; simp only [EV.dat.injEq, D.str.injEq, exists_eq_left']; split <;> simp [Rp, *]
  · rename_i h
    simp only [Rp, eq_iff_iff, false_iff]
    rintro ⟨z, rfl, _⟩
    exact h z rfl
theorem rp_mut {f : List D → List D → Option (List D × D)} : Rp (mMut f ma ml st) k e = Rp (ma st) (fun a st1 => ∃ xs0, ownB st1 a = some (.lst xs0) ∧ Rp (ml st1) (fun evs st2 => ∃ xs, ownB st2 a = some (.lst xs) ∧ ∃ ys, dats evs = some ys ∧ ∃ zd, f xs ys = some zd ∧ ∃ st3, setH st2 a (.lst zd.1) = some st3 ∧ k (.dat zd.2) st3) e) e := by
  unfold mMut
  rw [rp_bind]
  congr 1
  funext a st1
  split
  · rename_i xs0 h
    simp only [h, Option.some.injEq, BX.lst.injEq, exists_eq_left']
    rw [rp_bind]
    congr 1
    funext evs st2
    split
    · rename_i xs ys h1 h2
      simp only [h1, h2, Option.some.injEq, BX.lst.injEq, exists_eq_left']
      cases h3 : f xs ys with
      | none => simp [Rp]
      | some zd =>
        obtain ⟨zs, d⟩ := zd
        simp only [Option.some.injEq, exists_eq_left']
        cases h4 : setH st2 a (.lst zs) <;> simp [Rp]
    · rename_i h
      simp only [Rp, eq_iff_iff, false_iff]
      rintro ⟨xs, e1, ys, e2, _⟩
      exact h xs ys e1 e2
  · rename_i h
    simp only [Rp, eq_iff_iff, false_iff]
    rintro ⟨xs, e1, _⟩
    exact h xs e1
/-! tests -/
theorem rp_b : Rp (mB ma st) kb e = Rp (ma st) (fun a st1 => ∃ b, a = .dat (.bl b) ∧ kb b st1) e := by
  unfold mB
  rw [rp_bind]
  congr 1
  funext a st1
  split
  · simp [Rp]
  · rename_i h
    simp only [Rp, eq_iff_iff, false_iff]
    rintro ⟨z, rfl, _⟩
    exact h z rfl
theorem rp_and : Rp (mAnd m1' m2' st) kb e = Rp (m1' st) (fun b st1 => if b = true then Rp (m2' st1) kb e else kb false st1) e := by
  unfold mAnd; rw [rp_bind]; congr 1; funext b st1; rw [rp_ite]; rfl
theorem rp_or : Rp (mOr m1' m2' st) kb e = Rp (m1' st) (fun b st1 => if b = true then kb true st1 else Rp (m2' st1) kb e) e := by
  unfold mOr; rw [rp_bind]; congr 1; funext b st1; rw [rp_ite]; rfl
theorem rp_not : Rp (mNot m1' st) kb e = Rp (m1' st) (fun b st1 => kb (!b) st1) e := by
  unfold mNot; rw [rp_bind]; rfl
theorem rp_tru : Rp (mTru ma st) kb e = Rp (ma st) (fun a st1 => ∃ d, peek st1 a = some d ∧ ∃ b, truD d = some b ∧ kb b st1) e := by
  unfold mTru
  rw [rp_bind]
  congr 1
  funext a st1
  cases peek st1 a with
  | none => simp [Rp]
  | some x =>
    cases h : truD x with
    | none => simp [Rp, h]
    | some b => simp only [Rp, h, Option.some.injEq, exists_eq_left']
theorem rp_andV : Rp (mAndV ma mb st) k e = Rp (ma st) (fun a st1 => ∃ b, a = .dat (.bl b) ∧ if b = true then Rp (mb st1) k e else k (.dat (.bl false)) st1) e := by
  unfold mAndV
  rw [rp_bind]
  congr 1
  funext a st1
  split
  · rw [rp_ite]; simp [Rp]
  · rename_i h
    simp only [Rp, eq_iff_iff, false_iff]
    rintro ⟨z, rfl, _⟩
    exact h z rfl
theorem rp_orV : Rp (mOrV ma mb st) k e = Rp (ma st) (fun a st1 => ∃ b, a = .dat (.bl b) ∧ if b = true then k (.dat (.bl true)) st1 else Rp (mb st1) k e) e := by
  unfold mOrV
  rw [rp_bind]
  congr 1
  funext a st1
  split
  · rw [rp_ite]; simp [Rp]
  · rename_i h
    simp only [Rp, eq_iff_iff, false_iff]
    rintro ⟨z, rfl, _⟩
    exact h z rfl
theorem rp_notV : Rp (mNotV ma st) k e = Rp (ma st) (fun a st1 => ∃ b, a = .dat (.bl b) ∧ k (.dat (.bl (!b))) st1) e := by
  unfold mNotV
  rw [rp_bind]
  congr 1
  funext a st1
  split
  · simp [Rp]
  · rename_i h
    simp only [Rp, eq_iff_iff, false_iff]
    rintro ⟨z, rfl, _⟩
    exact h z rfl
theorem rp_ifE : Rp (mIf mt ma mb st) k e = Rp (mt st) (fun b st1 => if b = true then Rp (ma st1) k e else Rp (mb st1) k e) e := by
  unfold mIf; rw [rp_bind]; congr 1; funext b st1; rw [rp_ite]
theorem rp_chain {f g : D → D → Option D} : Rp (mChain f g ma mb mc st) k e = Rp (ma st) (fun a st1 => Rp (mb st1) (fun b st2 => ∃ x, peek st2 a = some x ∧ ∃ y, peek st2 b = some y ∧ ∃ kk, f x y = some (.bl kk) ∧ if kk = true then Rp (mc st2) (fun c st3 => ∃ y, peek st3 b = some y ∧ ∃ z, peek st3 c = some z ∧ ∃ d, g y z = some d ∧ k (.dat d) st3) e else k (.dat (.bl false)) st2) e) e := by
  unfold mChain
  rw [rp_bind]
  congr 1
  funext a st1
  rw [rp_bind]
  congr 1
  funext b st2
  cases peek st2 a with
  | none => simp [Rp]
  | some x =>
    cases peek st2 b with
    | none => simp [Rp]
    | some y =>
      simp only [Option.some.injEq, exists_eq_left']
      split
      · rename_i kk h
        rw [rp_ite]
        simp only [h, Option.some.injEq, D.bl.injEq, exists_eq_left']
        congr 1
        rw [rp_bind]
        congr 1
        funext c st3
        cases peek st3 b with
        | none => simp [Rp]
        | some y' =>
          cases peek st3 c with
          | none => simp [Rp]
          | some z => cases h : g y' z <;> simp [Rp, h]
      · rename_i h
        simp only [Rp, eq_iff_iff, false_iff]
        rintro ⟨kk, e, _⟩
        exact h kk e
/-! statements -/
theorem rp_seq : Rp (mSeq m1 m2 st) kf e = Rp (m1 st) (fun f st1 => match f with
    | .nx => Rp (m2 st1) kf e
    | f => kf f st1) e := by
  unfold mSeq
  rw [rp_bind]
  congr 1
  funext f st1
  cases f <;> rfl
theorem rp_step (h : ∀ U : St → Prop, (∀ st1, Rp (m2 st1) kf e → U st1) → Rp (m1 st) (fun f st1 => match f with
    | .nx => U st1
    | f => kf f st1) e) : Rp (mSeq m1 m2 st) kf e := by
  rw [rp_seq]
  exact h _ fun _ z => z
theorem rp_next : Rp (mNext st) kf e = kf .nx st := rfl
theorem rp_drop : Rp (mDrop ma st) kf e = Rp (ma st) (fun _ st1 => kf .nx st1) e := by unfold mDrop; rw [rp_bind]; rfl
theorem rp_ret : Rp (mRet ma st) kf e = Rp (ma st) (fun ev st1 => notTp ev = true ∧ kf (.ret ev) st1) e := by
  unfold mRet; rw [rp_bind]; congr 1; funext ev st1; rw [rp_ite]; split <;> simp [Rp, *]
theorem rp_retX : Rp (mRetX mn st) kf e = Rp (mn st) (fun b st1 => kf (.ret (.tp b)) st1) e := by unfold mRetX; rw [rp_bind]; rfl
theorem rp_retN : Rp (mRetN st) kf e = kf (.ret (.dat .non)) st := rfl
theorem rp_ifS : Rp (mIfS mt m1 m2 st) kf e = Rp (mt st) (fun b st1 => if b = true then Rp (m1 st1) kf e else Rp (m2 st1) kf e) e := by
  unfold mIfS; rw [rp_bind]; congr 1; funext b st1; rw [rp_ite]
theorem rp_asg : Rp (mAsg ma mg st) kf e = Rp (ma st) (fun ev st1 => Rp (mg ev st1) (fun _ st2 => kf .nx st2) e) e := by
  unfold mAsg; rw [rp_bind]; congr 1; funext ev st1; rw [rp_bind]; rfl
theorem rp_asgN {i : Nat} : Rp (mAsgN i mn st) kf e = Rp (mn st) (fun b st1 => kf .nx { st1 with env := st1.env.set i (some (.own b)) }) e := by unfold mAsgN; rw [rp_bind]; rfl
theorem rp_aug {i : Nat} {f : D → D → Option D} {x : D} (hx : st.env[i]? = some (some (.dat x))) : Rp (mAug i f ma st) kf e = Rp (ma st) (fun ev st1 => ∃ y, peek st1 ev = some y ∧ ∃ d, f x y = some d ∧ kf .nx { st1 with env := st1.env.set i (some (.dat d)) }) e := by
  unfold mAug
  rw [hx]
  dsimp only
  rw [rp_bind]
  congr 1
  funext ev st1
  cases peek st1 ev with
  | none => simp [Rp]
  | some y => cases h : f x y <;> simp [Rp, h]
theorem rp_raise {x : Kv.Er} : Rp (mRaise x st) kf e = e x st := rfl
theorem rp_for {mi : M Itr} : Rp (mFor mi mg m1 st) kf e = Rp (mi st) (fun it st1 => Rp (forL it.chk mg m1 it.ds st1) kf e) e := by unfold mFor; rw [rp_bind]
theorem rp_try {i : Nat} {hit : Kv.Er → Bool} {ms : Kv.Er → M Fl} : Rp (mTry i hit m1 ms st) kf e = Rp (m1 st) kf (fun x st1 => if hit x = true then Rp (ms x { st1 with env := (noExc st1.env).set i (some .exc) }) (fun f st2 => (∀ z, f = .ret z → z ≠ .exc) ∧ kf f { st2 with env := (noExc st2.env).set i none }) (fun _ _ => False) else e x st1) := by
  unfold mTry
  cases h : m1 st with
  | ok f st1 => rfl
  | stuck => rfl
  | err x st1 =>
    show Rp (if hit x = true then _ else _) kf e = if hit x = true then _ else _
    split
    · cases h2 : ms x { st1 with env := (noExc st1.env).set i (some .exc) } with
      | err _ _ => simp [Rp]
      | stuck => simp [Rp]
      | ok f st2 =>
        cases f with
        | ret ev => cases ev <;> simp [Rp]
        | _ => simp [Rp]
    · rfl
theorem rp_kinds {er : Kv.Er} : Rp (mKinds er ma st) k e = Rp (ma st) (fun ev st1 => ev = .exc ∧ k (.dat (.lst [.str er.nm])) st1) e := by
  unfold mKinds
  rw [rp_bind]
  congr 1
  funext ev st1
  cases ev <;> simp [Rp]
theorem rp_call {n : Nat} {m : Fn} : Rp (mCall n m ml st) k e = Rp (ml st) (fun evs st1 => Rp (callR n m evs st1) (fun x st2 => Rp (frzR x st2) k e) e) e := by
  unfold mCall mCall0
  rw [rp_bind, rp_bind]
theorem rp_callN {n : Nat} {m : Fn} : Rp (mCallN n m ml st) kx e = Rp (ml st) (fun evs st1 => Rp (callR n m evs st1) (fun x st2 => Rp (newR x st2) kx e) e) e := by
  unfold mCallN mCall0
  rw [rp_bind, rp_bind]
/-- loops -/
theorem rp_forL {chk : St → Prop} (I : Nat → St → Prop) : ∀ (ds : List D) (k0 : Nat) (st : St), I k0 st → (∀ i st, I i st → chk st) →
    (∀ i d st, k0 ≤ i → ds[i - k0]? = some d → I i st → Rp (mg (.dat d) st) (fun _ st1 => Rp (m1 st1) (fun f st2 => match f with | .nx => I (i + 1) st2 | .cont => I (i + 1) st2 | .brk => kf .nx st2 | .ret ev => kf (.ret ev) st2) e) e) →
    (∀ st, I (k0 + ds.length) st → kf .nx st) → Rp (forL chk mg m1 ds st) kf e
  | [], k0, st, h, hc, _, hd => by
    unfold forL
    rw [if_pos (hc k0 st h)]
    exact hd st (by simpa using h)
  | d :: r, k0, st, h, hc, hs, hd => by
    unfold forL
    rw [if_pos (hc k0 st h), rp_bind]
    refine rp_imp (hs k0 d st (Nat.le_refl k0) (by simp) h) (fun _ st1 g => ?_) (fun _ _ z => z)
    rw [rp_bind]
    have go : ∀ st2, I (k0 + 1) st2 → Rp (forL chk mg m1 r st2) kf e := fun st2 h2 => rp_forL I r (k0 + 1) st2 h2 hc (fun i d' st' hi e => hs i d' st' (by omega) (by rw [show i - k0 = (i - (k0 + 1)) + 1 by omega]; exact e)) (fun st' h' => hd st' (by rw [List.length_cons, show k0 + (r.length + 1) = k0 + 1 + r.length by omega]; exact h'))
    refine rp_imp g (fun f st2 g => ?_) (fun _ _ z => z)
    cases f with
    | nx => exact go st2 g
    | cont => exact go st2 g
    | brk => exact g
    | ret ev => exact g
end
end Mi

set_option Elab.async false
set_option linter.all false
set_option maxRecDepth 100000
set_option maxHeartbeats 4000000
namespace Mi
open PySem PySem.Spec PyProof.Rows L2
/-! ### walking in a function's body -/
section
variable {k : EV → St → Prop} {kf : Fl → St → Prop} {ku : Unit → St → Prop} {e : Kv.Er → St → Prop} {st : St}
theorem rp_var {i : Nat} {d : D} (h : st.env[i]? = some (some (.dat d))) : Rp (mVar i st) k e = k (.dat d) st := by unfold mVar; rw [h]; rfl
theorem rp_frz_l {d : D} : Rp (frzR (.inl (.dat d)) st) k e = k (.dat d) st := rfl
theorem rp_frz_r {ds : List D} : Rp (frzR (.inr (.lst ds)) st) k e = k (.dat (.lst ds)) st := rfl
/-- a call of a function of plain data that gives plain data -/
theorem rp_callD {n : Nat} {m : Fn} {evs : List EV} {kx : EV ⊕ BX → St → Prop} {as : List AV} {d : D} (h : m as [] st.S = .ok (.dat d) [] st.S) (hs : splitA st 0 evs = some (as, [], [])) (hn : as.length = n) (hk : kx (.inl (.dat d)) st) : Rp (callR n m evs st) kx e := by
  unfold callR
  rw [hs]
  dsimp only
  rw [if_pos ⟨by simp [tagsOf], hn⟩, h]
  exact hk
theorem rp_callX {n : Nat} {m : Fn} {evs : List EV} {kx : EV ⊕ BX → St → Prop} {as : List AV} {b : BX} (h : m as [] st.S = .ok (.new b) [] st.S) (hs : splitA st 0 evs = some (as, [], [])) (hn : as.length = n) (hk : kx (.inr b) st) : Rp (callR n m evs st) kx e := by
  unfold callR
  rw [hs]
  dsimp only
  rw [if_pos ⟨by simp [tagsOf], hn⟩, h]
  exact hk
theorem rp_callE {n : Nat} {m : Fn} {evs : List EV} {kx : EV ⊕ BX → St → Prop} {as : List AV} {x : Kv.Er} (h : m as [] st.S = .err x [] st.S) (hs : splitA st 0 evs = some (as, [], [])) (hn : as.length = n) (hk : e x st) : Rp (callR n m evs st) kx e := by
  unfold callR
  rw [hs]
  dsimp only
  rw [if_pos ⟨by simp [tagsOf], hn⟩, h]
  exact hk
end
/-- a def's ends: it hands plain data back, and leaves the rest as it is -/
def EndD (io : List BX) (S : List Ob) (P : D → Prop) : Fl → St → Prop
  | .nx, st => st.io = io ∧ st.S = S ∧ P .non
  | .ret (.dat x), st => st.io = io ∧ st.S = S ∧ P x
  | _, _ => False
def EndN (io : List BX) (S : List Ob) (P : BX → Prop) : Fl → St → Prop
  | .ret (.tp b), st => st.io = io ∧ st.S = S ∧ P b
  | .ret (.sl i), st => st.io = io ∧ st.S = S ∧ ∃ b, st.env[i]? = some (some (.own b)) ∧ P b
  | _, _ => False
theorem pure_run {n : Nat} {ms : M Fl} {as : List AV} {io : List BX} {S : List Ob} {P : D → Prop}
    (h : Rp (ms ⟨as.map (fun a => some a.sv) ++ List.replicate (n - as.length) none, io, S⟩) (EndD io S P) (fun _ _ => False)) : ∃ d, noErrF (runF n ms) as io S = .ok (.dat d) io S ∧ P d := by
  unfold noErrF runF
  cases e : ms ⟨as.map (fun a => some a.sv) ++ List.replicate (n - as.length) none, io, S⟩ with
  | stuck => rw [e] at h; exact h.elim
  | err x st => rw [e] at h; exact h.elim
  | ok f st =>
    rw [e] at h
    cases f with
    | nx => obtain ⟨rfl, rfl, h⟩ := h; exact ⟨_, rfl, h⟩
    | brk => exact h.elim
    | cont => exact h.elim
    | ret ev =>
      cases ev with
      | dat d => obtain ⟨rfl, rfl, h⟩ := h; exact ⟨_, rfl, h⟩
      | _ => exact h.elim
theorem pure_eq {n : Nat} {ms : M Fl} {as : List AV} {io : List BX} {S : List Ob} {d : D}
    (h : Rp (ms ⟨as.map (fun a => some a.sv) ++ List.replicate (n - as.length) none, io, S⟩) (EndD io S fun x => x = d) (fun _ _ => False)) : noErrF (runF n ms) as io S = .ok (.dat d) io S := by
  obtain ⟨_, e, rfl⟩ := pure_run h
  exact e
/-- the same of one that may raise -/
def rfE (er : Kv.Er) (io : List BX) (S : List Ob) : Option D → RF
  | some d => .ok (.dat d) io S
  | none => .err er io S
theorem pure_runE {n : Nat} {ms : M Fl} {as : List AV} {io : List BX} {S : List Ob} {r : Option D} {er : Kv.Er}
    (h : Rp (ms ⟨as.map (fun a => some a.sv) ++ List.replicate (n - as.length) none, io, S⟩) (EndD io S fun x => r = some x) (fun x st => st.io = io ∧ st.S = S ∧ r = none ∧ x = er)) : runF n ms as io S = rfE er io S r := by
  unfold runF
  cases e : ms ⟨as.map (fun a => some a.sv) ++ List.replicate (n - as.length) none, io, S⟩ with
  | stuck => rw [e] at h; exact h.elim
  | err x st =>
    rw [e] at h
    obtain ⟨rfl, rfl, rfl, rfl⟩ := h
    rfl
  | ok f st =>
    rw [e] at h
    cases f with
    | nx => obtain ⟨rfl, rfl, rfl⟩ := h; rfl
    | brk => exact h.elim
    | cont => exact h.elim
    | ret ev =>
      cases ev with
      | dat d => obtain ⟨rfl, rfl, rfl⟩ := h; rfl
      | _ => exact h.elim
/-- one that hands a new list back -/
theorem new_run {n : Nat} {ms : M Fl} {as : List AV} {io : List BX} {S : List Ob} {P : BX → Prop}
    (h : Rp (ms ⟨as.map (fun a => some a.sv) ++ List.replicate (n - as.length) none, io, S⟩) (EndN io S P) (fun _ _ => False)) : ∃ b, noErrF (runF n ms) as io S = .ok (.new b) io S ∧ P b := by
  unfold noErrF runF
  cases e : ms ⟨as.map (fun a => some a.sv) ++ List.replicate (n - as.length) none, io, S⟩ with
  | stuck => rw [e] at h; exact h.elim
  | err x st => rw [e] at h; exact h.elim
  | ok f st =>
    rw [e] at h
    cases f with
    | nx => exact h.elim
    | brk => exact h.elim
    | cont => exact h.elim
    | ret ev =>
      cases ev with
      | tp b => obtain ⟨rfl, rfl, h⟩ := h; exact ⟨_, rfl, h⟩
      | sl i => obtain ⟨rfl, rfl, b, e1, h⟩ := h; dsimp only; rw [e1]; exact ⟨b, rfl, h⟩
      | _ => exact h.elim
/-! ### statements and loops -/
section
variable {kf : Fl → St → Prop} {e : Kv.Er → St → Prop} {st : St} {m1 m2 : M Fl} {ma : M EV} {mg : EV → M Unit}
def SqEnd (N : St → Prop) (kf : Fl → St → Prop) : Fl → St → Prop
  | .nx, st => N st
  | f, st => kf f st
theorem rp_sq : Rp (mSeq m1 m2 st) kf e = Rp (m1 st) (SqEnd (fun st1 => Rp (m2 st1) kf e) kf) e := by
  rw [rp_seq]
  congr 1
  funext f st1
  cases f <;> rfl
theorem rp_cut (M : St → Prop) (h1 : Rp (m1 st) (SqEnd M kf) e) (h2 : ∀ st1, M st1 → Rp (m2 st1) kf e) : Rp (mSeq m1 m2 st) kf e := by
  rw [rp_sq]
  refine rp_imp h1 (fun f st1 h => ?_) (fun _ _ h => h)
  cases f <;> first | exact h2 _ h | exact h
def LpEnd (N : St → Prop) (kf : Fl → St → Prop) : Fl → St → Prop
  | .nx, st => N st
  | .cont, st => N st
  | .brk, st => kf .nx st
  | .ret ev, st => kf (.ret ev) st
/-- by what is left -/
theorem rp_forR {chk : St → Prop} (I : List D → St → Prop) (hc : ∀ r st, I r st → chk st) (hs : ∀ d r st, I (d :: r) st → Rp (mg (.dat d) st) (fun _ st1 => Rp (m1 st1) (LpEnd (I r) kf) e) e) (hd : ∀ st, I [] st → kf .nx st) : ∀ (ds : List D) (st : St), I ds st → Rp (forL chk mg m1 ds st) kf e
  | [], st, h => by
    unfold forL
    rw [if_pos (hc _ st h)]
    exact hd st h
  | d :: r, st, h => by
    unfold forL
    rw [if_pos (hc _ st h), rp_bind]
    refine rp_imp (hs d r st h) (fun _ st1 g => ?_) (fun _ _ z => z)
    rw [rp_bind]
    refine rp_imp g (fun f st2 g => ?_) (fun _ _ z => z)
    cases f with
    | nx => exact rp_forR I hc hs hd r st2 g
    | cont => exact rp_forR I hc hs hd r st2 g
    | brk => exact g
    | ret ev => exact g
theorem rp_str (I : List Nat → St → Prop) (h : Rp (ma st) (fun ev st1 => ∃ l, ev = .dat (.str (SX.S l)) ∧ I l st1) e) (hs : ∀ c r st, I (c :: r) st → Rp (mg (.dat (.str (SX.S [c]))) st) (fun _ st1 => Rp (m1 st1) (LpEnd (I r) kf) e) e) (hd : ∀ st, I [] st → kf .nx st) : Rp (mFor (mIStr ma) mg m1 st) kf e := by
  unfold mFor mIStr
  rw [rp_bind, rp_bind]
  refine rp_imp h (fun ev st1 g => ?_) (fun _ _ z => z)
  obtain ⟨l, rfl, h1⟩ := g
  dsimp only
  rw [rp_ok]
  dsimp only
  have e0 : ∀ l : List Nat, (SX.S l).cps.toList.map (fun c => D.str ⟨#[c]⟩) = l.map fun c => D.str (SX.S [c]) := fun l => by simp [SX.S]
  rw [e0]
  refine rp_forR (fun r st => ∃ l, r = l.map (fun c => D.str (SX.S [c])) ∧ I l st) (fun _ _ _ => trivial) (fun d r st g => ?_) (fun st g => ?_) _ st1 ⟨l, rfl, h1⟩
  · obtain ⟨l, e1, g⟩ := g
    cases l with
    | nil => cases e1
    | cons c l =>
      rw [List.map_cons] at e1
      cases e1
      refine rp_imp (hs c l st g) (fun _ st1 g => ?_) (fun _ _ z => z)
      refine rp_imp g (fun f st2 g => ?_) (fun _ _ z => z)
      cases f with
      | nx => exact ⟨l, rfl, g⟩
      | cont => exact ⟨l, rfl, g⟩
      | brk => exact g
      | ret ev => exact g
  · obtain ⟨l, e1, g⟩ := g
    cases l with
    | nil => exact hd st g
    | cons c l => cases e1
theorem rng_get {lo : Int} {n i : Nat} {d : D} (h : (rngD lo n)[i]? = some d) : d = .int (lo + i) ∧ i < n := by
  unfold rngD at h
  rw [List.getElem?_map] at h
  have hi : i < n := by
    by_cases c : i < n
    · exact c
    · rw [List.getElem?_eq_none (by simpa using c)] at h; cases h
  rw [List.getElem?_range hi] at h
  cases h
  exact ⟨rfl, hi⟩
/-- by the number of turns -/
theorem rp_forI {chk : St → Prop} (I : Nat → St → Prop) : ∀ (ds : List D) (k0 : Nat) (st : St), I k0 st → (∀ i st, I i st → chk st) →
    (∀ i d st, k0 ≤ i → ds[i - k0]? = some d → I i st → Rp (mg (.dat d) st) (fun _ st1 => Rp (m1 st1) (LpEnd (I (i + 1)) kf) e) e) →
    (∀ st, I (k0 + ds.length) st → kf .nx st) → Rp (forL chk mg m1 ds st) kf e
  | [], k0, st, h, hc, _, hd => by
    unfold forL
    rw [if_pos (hc k0 st h)]
    exact hd st (by simpa using h)
  | d :: r, k0, st, h, hc, hs, hd => by
    unfold forL
    rw [if_pos (hc k0 st h), rp_bind]
    refine rp_imp (hs k0 d st (Nat.le_refl k0) (by simp) h) (fun _ st1 g => ?_) (fun _ _ z => z)
    rw [rp_bind]
    have go : ∀ st2, I (k0 + 1) st2 → Rp (forL chk mg m1 r st2) kf e := fun st2 h2 => rp_forI I r (k0 + 1) st2 h2 hc (fun i d' st' hi e => hs i d' st' (by omega) (by rw [show i - k0 = (i - (k0 + 1)) + 1 by omega]; exact e)) (fun st' h' => hd st' (by rw [List.length_cons, show k0 + (r.length + 1) = k0 + 1 + r.length by omega]; exact h'))
    refine rp_imp g (fun f st2 g => ?_) (fun _ _ z => z)
    cases f with
    | nx => exact go st2 g
    | cont => exact go st2 g
    | brk => exact g
    | ret ev => exact g
theorem rp_rng1 (n : Int) (I : Nat → St → Prop) (hb : -4611686018427387904 ≤ n ∧ n < 4611686018427387904) (h : Rp (ma st) (fun ev st1 => ev = .dat (.int n) ∧ I 0 st1) e) (hs : ∀ (i : Nat) st, (i : Int) < n → I i st → Rp (mg (.dat (.int (i : Int))) st) (fun _ st1 => Rp (m1 st1) (LpEnd (I (i + 1)) kf) e) e) (hd : ∀ st, I n.toNat st → kf .nx st) : Rp (mFor (mIRng1 (mCons ma (M.pure []))) mg m1 st) kf e := by
  unfold mFor mIRng1
  rw [rp_bind, rp_bind, rp_cons]
  refine rp_imp h (fun ev st1 g => ?_) (fun _ _ z => z)
  obtain ⟨rfl, h0⟩ := g
  refine ⟨rfl, ?_⟩
  rw [rp_pure]
  dsimp only
  rw [rp_ite, if_pos (show -2 ^ 62 ≤ n ∧ n < 2 ^ 62 from hb), rp_ok]
  dsimp only
  refine rp_forI I _ 0 st1 h0 (fun _ _ _ => trivial) (fun i d st _ e g => ?_) (fun st g => hd st ?_)
  · obtain ⟨rfl, hi⟩ := rng_get e
    have := hs i st (by omega) g
    rw [Int.zero_add]
    exact this
  · rw [Nat.zero_add, show (rngD 0 n.toNat).length = n.toNat by simp [rngD]] at g
    exact g
theorem rp_rng2 (lo n : Int) (I : Nat → St → Prop) {mb : M EV} (hb : -4611686018427387904 ≤ lo ∧ lo < 4611686018427387904 ∧ -4611686018427387904 ≤ n ∧ n < 4611686018427387904) (h : Rp (ma st) (fun ev st1 => ev = .dat (.int lo) ∧ Rp (mb st1) (fun ev st2 => ev = .dat (.int n) ∧ I 0 st2) e) e) (hs : ∀ (i : Nat) st, lo + (i : Int) < n → I i st → Rp (mg (.dat (.int (lo + (i : Int)))) st) (fun _ st1 => Rp (m1 st1) (LpEnd (I (i + 1)) kf) e) e) (hd : ∀ st, I (n - lo).toNat st → kf .nx st) : Rp (mFor (mIRng2 (mCons ma (mCons mb (M.pure [])))) mg m1 st) kf e := by
  unfold mFor mIRng2
  rw [rp_bind, rp_bind, rp_cons]
  refine rp_imp h (fun ev st1 g => ?_) (fun _ _ z => z)
  obtain ⟨rfl, g⟩ := g
  refine ⟨rfl, ?_⟩
  rw [rp_cons]
  refine rp_imp g (fun ev st1 g => ?_) (fun _ _ z => z)
  obtain ⟨rfl, h0⟩ := g
  refine ⟨rfl, ?_⟩
  rw [rp_pure]
  dsimp only
  rw [rp_ite, if_pos (show -2 ^ 62 ≤ lo ∧ lo < 2 ^ 62 ∧ -2 ^ 62 ≤ n ∧ n < 2 ^ 62 from hb), rp_ok]
  dsimp only
  refine rp_forI I _ 0 st1 h0 (fun _ _ _ => trivial) (fun i d st _ e g => ?_) (fun st g => hd st ?_)
  · obtain ⟨rfl, hi⟩ := rng_get e
    exact hs i st (by omega) g
  · rw [Nat.zero_add, show (rngD lo (n - lo).toNat).length = (n - lo).toNat by simp [rngD]] at g
    exact g
/-- over plain data that stays -/
theorem rp_lst_it (I : List D → St → Prop) (h : Rp (ma st) (fun ev st1 => ∃ ds, ev = .dat (.lst ds) ∧ I ds st1) e) (hs : ∀ d r st, I (d :: r) st → Rp (mg (.dat d) st) (fun _ st1 => Rp (m1 st1) (LpEnd (I r) kf) e) e) (hd : ∀ st, I [] st → kf .nx st) : Rp (mFor (mIList ma) mg m1 st) kf e := by
  unfold mFor mIList
  rw [rp_bind, rp_bind]
  refine rp_imp h (fun ev st1 g => ?_) (fun _ _ z => z)
  obtain ⟨ds, rfl, h1⟩ := g
  rw [rp_ite, if_neg (by simp [isSl])]
  simp only [peek]
  rw [rp_ok]
  exact rp_forR I (fun _ _ _ => trivial) hs hd ds st1 h1
end
section
variable {mo mi : M EV} {ku : Unit → St → Prop} {e : Kv.Er → St → Prop} {st : St}
theorem rp_mgSub {d : D} : Rp (mgSub mo mi (.dat d) st) ku e = Rp (mo st) (fun o st1 => Rp (mi st1) (fun i st2 => ∃ xs, ownB st2 o = some (.lst xs) ∧ ∃ k, i = .dat (.int k) ∧ ∃ j, ixN xs.length k = some j ∧ ∃ st3, setH st2 o (.lst (xs.set j d)) = some st3 ∧ ku () st3) e) e := by
  unfold mgSub
  dsimp only
  rw [rp_bind]
  congr 1
  funext o st1
  rw [rp_bind]
  congr 1
  funext i st2
  split
  · rename_i xs k h
    simp only [h, Option.some.injEq, BX.lst.injEq, exists_eq_left', EV.dat.injEq, D.int.injEq]
    cases h2 : ixN xs.length k with
    | none => simp [Rp]
    | some j =>
      simp only [Option.some.injEq, exists_eq_left']
      cases h3 : setH st2 o (.lst (xs.set j d)) <;> simp [Rp]
  · rename_i h
    simp only [Rp, eq_iff_iff, false_iff]
    rintro ⟨xs, e1, k, e2, _⟩
    exact h xs k e1 e2
end
/-! ### the values -/
theorem iOp_some {C : Int → Int → Prop} {g : Int → Int → D} {i j : Int} {d : D} : (iOp C g (.int i) (.int j) = some d) = (g i j = d ∧ C i j) := by
  unfold iOp
  by_cases c : C i j <;> simp [c]
theorem sOp_some {C : Str → Str → Prop} {g : Str → Str → D} {i j : Str} {d : D} : (sOp C g (.str i) (.str j) = some d) = (g i j = d ∧ C i j) := by
  unfold sOp
  by_cases c : C i j <;> simp [c]
theorem eq_ii {i j : Int} : fEq (.int i) (.int j) = some (.bl (decide (i = j))) := by simp [fEq, scV, scal]
theorem eq_ss {i j : Str} : fEq (.str i) (.str j) = some (.bl (decide (i = j))) := by simp [fEq, scV, scal]
theorem ne_ii {i j : Int} : fNe (.int i) (.int j) = some (.bl (!decide (i = j))) := by simp [fNe, scV, scal]
theorem ne_ss {i j : Str} : fNe (.str i) (.str j) = some (.bl (!decide (i = j))) := by simp [fNe, scV, scal]
theorem cpow_1 {k : Nat} (h : k ≤ 1000000) : CPow 10 (k : Int) = True := eq_true ⟨by omega, by omega, by decide⟩
theorem cpow_12 : CPow 10 12 = True := cpow_1 (k := 12) (by decide)
theorem cpow_13 : CPow 10 13 = True := cpow_1 (k := 13) (by decide)
theorem cpow_18 : CPow 10 18 = True := cpow_1 (k := 18) (by decide)
theorem cpow_9 : CPow 10 9 = True := cpow_1 (k := 9) (by decide)
theorem cpow_6 : CPow 10 6 = True := cpow_1 (k := 6) (by decide)
theorem cdiv_p12 {i : Int} : CDivW i 1000000000000 = True := eq_true ⟨by decide, by decide⟩
theorem cdiv_p13 {i : Int} : CDivW i 10000000000000 = True := eq_true ⟨by decide, by decide⟩
theorem cdiv_p18 {i : Int} : CDivW i 1000000000000000000 = True := eq_true ⟨by decide, by decide⟩
section
variable {st : St}
theorem peek_int {i : Int} : peek st (.dat (.int i)) = some (.int i) := rfl
theorem peek_str {i : Str} : peek st (.dat (.str i)) = some (.str i) := rfl
theorem peek_bl {i : Bool} : peek st (.dat (.bl i)) = some (.bl i) := rfl
theorem peek_non : peek st (.dat .non) = some .non := rfl
theorem peek_lst {ds : List D} : peek st (.dat (.lst ds)) = some (.lst ds) := rfl
theorem peek_tup {ds : List D} : peek st (.dat (.tup ds)) = some (.tup ds) := rfl
theorem peek_ty {s : String} : peek st (.dat (.ty s)) = some (.ty s) := rfl
theorem peek_tp {ds : List D} : peek st (.tp (.lst ds)) = some (.lst ds) := rfl
theorem peek_sl {i : Nat} {ds : List D} (h : st.env[i]? = some (some (.own (.lst ds)))) : peek st (.sl i) = some (.lst ds) := by simp only [peek, h]
theorem peek_sl2 {i : Nat} {ds : List D} (h : st.env[i]? = some (some (.dat (.lst ds)))) : peek st (.sl i) = some (.lst ds) := by simp only [peek, h]
end
theorem fIxL_some {ds : List D} {i : Int} {d : D} : (fIxL (.lst ds) (.int i) = some d) = (atI ds i = some d) := rfl
theorem fIxT_some {ds : List D} {i : Int} {d : D} : (fIxT (.tup ds) (.int i) = some d) = (atI ds i = some d) := rfl
theorem append_some {xs : List D} {y : D} {z : List D × D} : (fAppend xs [y] = some z) = ((xs ++ [y], D.non) = z ∧ xs.length < sizeLine) := by
  unfold fAppend
  by_cases c : xs.length < sizeLine <;> simp [c]
theorem lenS_some {z : Str} {d : D} : (fLenS [.str z] = some d) = (.int z.length = d ∧ z.length ≤ sizeLine) := by
  unfold fLenS
  by_cases c : z.length ≤ sizeLine <;> simp [c]
theorem strI_some {i : Int} {d : D} : (fStrI [.int i] = some d) = (.str (toString i) = d ∧ i.natAbs.log2 < 1920) := by
  unfold fStrI
  by_cases c : i.natAbs.log2 < 1920 <;> simp [c]
theorem mulS_some {z : Str} {n : Int} {d : D} : (fMulS (.str z) (.int n) = some d) = (.str (repS z n) = d ∧ -(2 ^ 63) ≤ n ∧ n ≤ 1000000 ∧ z.length * n.toNat ≤ 16777216 ∧ (repS z n).length ≤ sizeLine) := by
  unfold fMulS
  by_cases c : -(2 ^ 63) ≤ n ∧ n ≤ 1000000 ∧ z.length * n.toNat ≤ 16777216 ∧ (repS z n).length ≤ sizeLine <;> simp only [c, if_pos, if_neg, reduceCtorEq, and_true, and_false, Option.some.injEq, not_false_eq_true]
theorem ljust2_some {a f : Str} {i : Int} {d : D} : (fLjust2 (.str a) (.int i) (.str f) = some d) = (.str (Txt.ljustF a i (f.cps.getD 0 0)) = d ∧ PadOk i = true ∧ f.length = 1) := by
  unfold fLjust2
  by_cases c : PadOk i = true ∧ f.length = 1 <;> simp [c]
theorem rmp_some {a b : Str} {d : D} : (fRemoveprefix (.str a) (.str b) = some d) = (.str (Txt.removeprefix a b) = d ∧ a.length ≤ sizeLine) := by
  unfold fRemoveprefix
  by_cases c : a.length ≤ sizeLine <;> simp [c]
theorem catL_some {xs ys : List D} {ds : List D} : (fCatL (.lst xs) (.lst ys) = some ds) = (xs ++ ys = ds ∧ xs.length + ys.length ≤ sizeLine) := by
  unfold fCatL
  by_cases c : xs.length + ys.length ≤ sizeLine <;> simp [c]
/-! ### lists of ints -/
def getI (xs : List Int) (i : Nat) : Int := xs.getD i 0
theorem atI_ints {xs : List Int} {i n : Nat} (h : xs.length = n) (hi : i < n) : atI (xs.map D.int) (i : Int) = some (.int (getI xs i)) := by
  refine atI_nat ?_
  rw [List.getElem?_map, List.getElem?_eq_getElem (by omega)]
  simp [getI, List.getD, List.getElem?_eq_getElem (show i < xs.length by omega)]
theorem neD_same {x : D} {a : PyData} (h : x.pd = some a) (hl : a.canLay0 = true) (hd : a.depth ≤ 64) : fNeD x x = some (.bl false) := by
  unfold fNeD
  rw [h]
  dsimp only
  have s := Kv.shaped_of hl hd
  rw [if_pos ⟨s, s⟩, SeqAt.eqv_refl a hl]
  rfl
theorem eqD_same {x : D} {a : PyData} (h : x.pd = some a) (hl : a.canLay0 = true) (hd : a.depth ≤ 64) : fEqD x x = some (.bl true) := by
  unfold fEqD
  rw [h]
  dsimp only
  have s := Kv.shaped_of hl hd
  rw [if_pos ⟨s, s⟩, SeqAt.eqv_refl a hl]
theorem atI_c0 {α : Type} {x : α} {r : List α} : atI (x :: r) 0 = some x := atI_nat (j := 0) rfl
theorem atI_c1 {α : Type} {x y : α} {r : List α} : atI (x :: y :: r) 1 = some y := atI_nat (j := 1) rfl
theorem atI_c2 {α : Type} {x y z : α} {r : List α} : atI (x :: y :: z :: r) 2 = some z := atI_nat (j := 2) rfl
theorem atI_c3 {α : Type} {x y z w : α} {r : List α} : atI (x :: y :: z :: w :: r) 3 = some w := atI_nat (j := 3) rfl
theorem atI_c4 {α : Type} {x y z w u : α} {r : List α} : atI (x :: y :: z :: w :: u :: r) 4 = some u := atI_nat (j := 4) rfl
end Mi
namespace Kv
open PySem PySem.Spec PyProof.Rows L2
/-! ### isinstance(e, ValueError) -/
def veAll (K : Frag) (a : Er → Addr) : Bool := Er.every.all fun e => PySem.W.kitOne K (.ref (a e)) (.type "ValueError") == some true
theorem ve_of {K : Frag} {a : Er → Addr} (h : veAll K a = true) (e : Er) : PySem.W.kitOne K (.ref (a e)) (.type "ValueError") = some true := by
  unfold veAll at h
  simpa using (List.all_eq_true.mp h) e e.mem
/-- which errors a suite of one class takes -/
def exhAll (K : Frag) (a : Er → Addr) (d : Er) : Bool := Er.every.all fun e => PySem.W.exmOne K (.ref (a e)) (.ref (a d)) == some (decide (e = d))
theorem exh_of {K : Frag} {a : Er → Addr} {d : Er} (h : exhAll K a d = true) (e : Er) : PySem.W.exmOne K (.ref (a e)) (.ref (a d)) = some (decide (e = d)) := by
  unfold exhAll at h
  simpa using (List.all_eq_true.mp h) e e.mem
def rIsPt (K : Frag) (D a : Addr) : List V → Hp → VK → Prop := fun xs H Q => ∃ (n : String) (b : Bool), xs = [.ref a, .ty n] ∧ PySem.W.kitOne K (.ref D) (.type n) = some b ∧ Q (.bl b) H
theorem call_isPt {X : Cx} {D : Addr} {p : Addr × Obj} (hp : p ∈ X.pn) (C : ExcC X.K D) (hz : Zc (.ref D) none p.2) (hf : ∃ vs, p.2.data = .fields vs) : CallR X (.builtin "isinstance") (rIsPt X.K D p.1) := by
  intro pins s σ H xs us Q I r h
  obtain ⟨c, b, e1, e, q⟩ := h
  subst e1
  cases r with
  | cons rx rr =>
    cases rr with
    | cons rt rr2 =>
      cases rr2
      cases rx
      cases rt
      have hget := (I.pin p (List.mem_append.mpr (.inl hp))).1
      have J : PySem.W.InstAt s.heap p.1 p.2 D none := by
        obtain ⟨pa, oc, od, oda, osl⟩ := p
        obtain ⟨vs, hv⟩ := hf
        obtain ⟨h1, h2⟩ := hz
        dsimp only at h1 h2 hv hget ⊢
        subst h1 h2 hv
        exact ⟨hget, rfl, rfl, trivial⟩
      have kit := PySem.W.handS_kitx_exc C.hg C.hk C.hs C.hd C.ha C.hn C.ht C.hm (x := p.1) (ox := p.2)
      exact PySem.W.kia_one kit I.kIn J e (fun z => nomatch z) fun tk => ⟨.bl b, H, I.kept (t' := tk) fun _ _ z => z, rfl, q⟩
end Kv

set_option Elab.async false
set_option linter.all false
set_option maxRecDepth 100000
set_option maxHeartbeats 4000000
namespace Mi
open PySem PySem.Spec PyProof.Rows L2
theorem op_eqK {X : Cx} {K : Frag} (hu : X.A.units + 64 < cLine) (hK : X.K = K := by rfl) : OpR X (compareOp .Eq) (rEqD K) := by subst hK; exact op_eqD hu
theorem op_neK {X : Cx} {K : Frag} (hu : X.A.units + 64 < cLine) (hK : X.K = K := by rfl) : OpR X (compareOp .NotEq) (rNeD K) := by subst hK; exact op_neD hu
/-- a def's body by its reading and its function -/
theorem fin0 {K : Frag} {H : Hp} {Y : Cx} {b : List Stmt} {ex : Kv.Er → Addr} {X : XK} {t : TS} {ms : M Fl} {N : List Str} {n : Nat} {vs : List V} {Q : VK} {c : Str → Addr} (hd : PSs Y b t) (hs : ∀ xa, SimS K (c, xa, false) EF t ms) (q : spM K c ex n (noErrF (runF N.length ms)) vs H Q X) :
    ∃ t, PSs Y b t ∧ t { nx := fun _ H' => Q .non H', rt := Q } (L2.start N vs) H := ⟨t, hd, body_ok0 hs q⟩
theorem finX {K : Frag} {H : Hp} {Y : Cx} {b : List Stmt} {ex : Kv.Er → Addr} {X : XK} {t : TS} {ms : M Fl} {N : List Str} {n : Nat} {vs : List V} {Q : VK} {c : Str → Addr} (hd : PSs Y b t) (hs : ∀ xa, SimS K (c, xa, false) (fun e _ H => X (.ref (ex e)) none H) t ms) (q : spM K c ex n (runF N.length ms) vs H Q X) :
    ∃ t, PSs Y b t ∧ t { nx := fun _ H' => Q .non H', rt := Q } (L2.start N vs) H := ⟨t, hd, body_ok hs q⟩
/-! ### calls that change what they are handed -/
theorem rp_callM {n : Nat} {m : Fn} {evs : List EV} {st : St} {e : Kv.Er → St → Prop} {kx : EV ⊕ BX → St → Prop} {as : List AV} {hs : List EV} {bs io : List BX} {S : List Ob} {rv : RV} {x : EV ⊕ BX} (hm : m as bs st.S = .ok rv io S) (hsp : splitA st 0 evs = some (as, hs, bs)) (hn : as.length = n) (hnd : (tagsOf hs).Nodup) (hl : io.length = hs.length) (hb : backV hs rv = some x) (hk : kx x (mPut hs st io S)) : Rp (callR n m evs st) kx e := by
  unfold callR
  rw [hsp]
  dsimp only
  rw [if_pos ⟨hnd, hn⟩, hm]
  dsimp only
  rw [if_pos hl, hb]
  exact hk
theorem kit_tt : kitB "tuple" "tuple" = some true := by rfl
theorem kit_ss : kitB "str" "str" = some true := by rfl
theorem kit_ii : kitB "int" "int" = some true := by rfl
theorem kit_ib : kitB "int" "bool" = some false := by rfl
theorem kit_ll : kitB "list" "list" = some true := by rfl
theorem kit_bb : kitB "bool" "bool" = some true := by rfl
theorem ixN_2_0 : ixN 2 0 = some 0 := by rfl
theorem ixN_2_1 : ixN 2 1 = some 1 := by rfl
theorem ixN_3_0 : ixN 3 0 = some 0 := by rfl
theorem ixN_3_1 : ixN 3 1 = some 1 := by rfl
theorem ixN_3_2 : ixN 3 2 = some 2 := by rfl
theorem rp_new_r {b : BX} {st : St} {kx : BX → St → Prop} {e : Kv.Er → St → Prop} : Rp (newR (.inr b) st) kx e = kx b st := rfl
theorem nod2t {b c : BX} : (tagsOf [.tp b, .tp c]).Nodup := by simp [tagsOf, hTagAt, List.mapIdx_cons]
theorem ite_dup {c1 c2 : Prop} [Decidable c1] [Decidable c2] {B E : Prop} (hB : B) (hE : E) : if c1 then B else if c2 then B else E := by split; exact hB; split; exact hB; exact hE
theorem nod0 : (tagsOf []).Nodup := by decide
theorem nod1 {e : EV} : (tagsOf [e]).Nodup := by simp [tagsOf]
theorem peek_ioU {st : St} {k : Nat} : peek st (.io k) = (match st.io[k]? with
    | some (.lst ds) => some (.lst ds)
    | _ => none) := rfl
theorem peek_slU {st : St} {i : Nat} : peek st (.sl i) = (match st.env[i]? with
    | some (some (.own (.lst ds))) => some (.lst ds)
    | some (some (.dat (.lst ds))) => some (.lst ds)
    | _ => none) := rfl
def EndG (S : List Ob) (P : D → List BX → Prop) : Fl → St → Prop
  | .nx, st => st.S = S ∧ P .non st.io
  | .ret (.dat x), st => st.S = S ∧ P x st.io
  | _, _ => False
theorem gen_run {n : Nat} {ms : M Fl} {as : List AV} {io : List BX} {S : List Ob} {P : D → List BX → Prop}
    (h : Rp (ms ⟨as.map (fun a => some a.sv) ++ List.replicate (n - as.length) none, io, S⟩) (EndG S P) (fun _ _ => False)) : ∃ d io', noErrF (runF n ms) as io S = .ok (.dat d) io' S ∧ P d io' := by
  unfold noErrF runF
  cases e : ms ⟨as.map (fun a => some a.sv) ++ List.replicate (n - as.length) none, io, S⟩ with
  | stuck => rw [e] at h; exact h.elim
  | err x st => rw [e] at h; exact h.elim
  | ok f st =>
    rw [e] at h
    cases f with
    | nx => obtain ⟨rfl, h⟩ := h; exact ⟨_, _, rfl, h⟩
    | brk => exact h.elim
    | cont => exact h.elim
    | ret ev =>
      cases ev with
      | dat d => obtain ⟨rfl, h⟩ := h; exact ⟨_, _, rfl, h⟩
      | _ => exact h.elim
/-! ### enumerate(text, k) -/
def Ites (x : Str) (k0 : Int) : It :=
  ⟨fun i _ => i < x.cps.size, fun i H v H' => ∃ T c, v = .ref T ∧ H T = none ∧ H' = upd H T (.tup [.int (k0 + (i : Nat)), .str ⟨#[c]⟩]) ∧ x.cps[i]? = some c, fun i _ => i = x.cps.size⟩
theorem draws_str {P : Program} {w : World} {A : Around} (hh : A.handled = none) (it : Addr) (x : Str) (t : Tok) {ty : String} (hty : ty = "str_ascii_iterator" ∨ ty = "str_iterator") :
    Draws P w A it [it] x.cps.size (fun i v => ∃ c u, x.cps[i]? = some c ∧ v = .str ⟨#[c]⟩ u) (fun i h => h.IsStrIter it ty x t i) := by
  rcases hty with e | e
  · subst e; exact Draws.strAscii hh it x t
  · subst e; exact Draws.strWide hh it x t
theorem turn_enumS {P : Program} {w : World} {K : PySem.W.Frag} {elts : List Expr} {kk : Nat} {tpos : Pos} (x : Str) (t : Tok) (k0 : Int) (e it : Addr) {ty : String} (hty : ty = "str_ascii_iterator" ∨ ty = "str_iterator") :
    Turn P w K (.Tuple elts kk tpos) (Ites x k0) [e, it] e (fun i h => (∃ old, IsEnum h e it (k0 + ((i : Nat) : Int)) old) ∧ h.IsStrIter it ty x t i ∧ e ≠ it) where
  mem := by simp
  obj := fun i h st b hb => by
    obtain ⟨⟨old, he⟩, ⟨o, ho, hc, hd⟩, _⟩ := st
    have e' : b = e ∨ b = it := by simpa using hb
    rcases e' with z | z
    · rw [z]; exact ⟨_, he, fun v q => nomatch q⟩
    · rw [z]; exact ⟨o, ho, fun v q => by rw [hd] at q; cases q⟩
  keep := fun i h h' st k => let ⟨⟨old, he⟩, ⟨o, ho, r⟩, hne⟩ := st; ⟨⟨old, k e (by simp) _ he⟩, ⟨o, k it (by simp) o ho, r⟩, hne⟩
  item := by
    intro X hP hw hK hc i pins s σ H E I hf st hg
    subst hP hw hK
    obtain ⟨⟨old, he⟩, hit, hne⟩ := st
    have hel : e < s.heap.objs.size := Heap.lt_size he
    have hil : it < s.heap.objs.size := by obtain ⟨_, q, _⟩ := hit; exact Heap.lt_size q
    refine wpAny_pyNext_enum_itemC (draws_str (A := X.A.in1) (I.ok.hd hc) it x t hty) he hit hg hne (by simpa using hne) fun v h' tk hv ho hit' hT hsz hk => ?_
    obtain ⟨c, u, hcx, rfl⟩ := hv
    refine ⟨_, rfl, wpAny_letOwnedTupleGo_enum (s := { s with heap := h', toks := tk + 1 }) ho fun h'' he' sb => ?_⟩
    have hT2 : h''.get? s.heap.objs.size = some { cls := .type "tuple", data := .seq #[.int (k0 + (i : Nat)) tk, .str ⟨#[c]⟩ u] } := (sb.2 _ (Nat.ne_of_gt hel)).trans hT
    have new : ObjOk X.prog X.w (upd H s.heap.objs.size (.tup [.int (k0 + (i : Nat)), .str ⟨#[c]⟩])) h'' s.heap.objs.size (.tup [.int (k0 + (i : Nat)), .str ⟨#[c]⟩]) :=
      ⟨by show 2 ≤ sizeLine; decide, [.int (k0 + (i : Nat)) tk, .str ⟨#[c]⟩ u], .cons ⟨_, rfl⟩ (.cons ⟨_, rfl⟩ .nil), ⟨_, hT2, rfl, _, rfl⟩⟩
    have I1 : L2.Inv X pins σ (upd H s.heap.objs.size (.tup [.int (k0 + (i : Nat)), .str ⟨#[c]⟩])) { s with heap := h'', toks := tk + 1 } :=
      I.turnedNew (ch := [e, it]) (fun b ob hb q => (sb.2 b (fun z => hb (by simp [z]))).trans (hk b ob (fun z => hb (by simp [z])) (fun z => hb (by simp [z])) q)) hf (Nat.le_refl _) new
    refine ⟨.ref s.heap.objs.size, _, I1, rfl, ⟨_, c, rfl, I.hok.fresh (Nat.le_refl _), rfl, hcx⟩, ⟨⟨.str ⟨#[c]⟩ u, ?_⟩, ?_, hne⟩, fun b hb => ?_⟩
    · have e1 : k0 + ((i + 1 : Nat) : Int) = k0 + (i : Int) + 1 := by omega
      rw [e1]; exact he'
    · obtain ⟨o, ho, r⟩ := hit'
      exact ⟨o, (sb.2 it (Ne.symm hne)).trans ho, r⟩
    · have hb' : b < s.heap.objs.size := by
        have e' : b = e ∨ b = it := by simpa using hb
        rcases e' with z | z
        · rw [z]; exact hel
        · rw [z]; exact hil
      rw [upd_ne (Nat.ne_of_lt hb')]
      exact (hf b hb).1
  done := by
    intro X hP hw hK hc i pins s σ H E I hf st hg
    subst hP hw hK
    obtain ⟨⟨old, he⟩, hit, hne⟩ := st
    have hg : i = x.cps.size := hg
    subst hg
    obtain ⟨f0, f1, f2, f3, f4, f5⟩ := hf it (by simp)
    exact wpAny_pyNext_enum_endD (draws_str (A := X.A.in1) (I.ok.hd hc) it x t hty) he hit fun h' eb => ⟨rfl, I.turned (t' := s.toks) (fun b o hb q => eb b o hb q) f0 f1 f3 f4 f5⟩
  self := fun A i s Q E st h => let ⟨⟨_, he⟩, _⟩ := st; wpAny_pyIter_enum he h
def iEnumS (ta : TA) : TI := fun σ H R => ta σ H fun vs H1 => ∃ x k, vs = [.str x, .int k] ∧ (-(2 ^ 63) ≤ k ∧ k < 2 ^ 63) ∧ R (Ites x k) H1
theorem pi_enumS {X : Cx} {e1 e2 : Expr} {ta : TA} {p pos tpos : Pos} {elts : List Expr} {kk : Nat} (hg : Gl X "enumerate") (hm : X.mg "enumerate" = none) (ha : PA X [e1, e2] ta) (hs : starEach [e1, e2] X.env = (false, eval e1 X.env) :: starEach [e2] X.env := by rfl) (hpl : (backTo pos (starEach [e2] X.env)).any (·.1) = false := by rfl) :
    PI X (.Tuple elts kk tpos) (.Call (.Name "enumerate" p) [e1, e2] [] pos) (iEnumS ta) := by
  refine ⟨fun pins s σ H R I h => ?_⟩
  refine Call_ (ld_blt I hg hm boot_enumerate (PyProof.Rows.callWith_type1 (thn (ha.run pos pins s σ H _ I h) fun us s1 ⟨vs, H1, I1, r1, q1⟩ => ?_) hs hpl))
  obtain ⟨x, k, ex, hk, q⟩ := q1
  subst ex
  cases r1 with
  | cons r rr =>
    cases rr with
    | cons r2 rr =>
    cases rr
    obtain ⟨t, rfl⟩ := r
    obtain ⟨t2, rfl⟩ := r2
    have hty : strIterType x = "str_ascii_iterator" ∨ strIterType x = "str_iterator" := by unfold strIterType; split <;> simp
    refine enum_begins (begins_text x t) trivial hk.1 hk.2 fun h' he hit hsz hkp => wpAny_pyIter_enum he ?_
    have I2 : L2.Inv X pins σ H1 { s1 with heap := h' } := I1.kept (t' := s1.toks) hkp
    refine ⟨s1.heap.objs.size + 1, [s1.heap.objs.size + 1, s1.heap.objs.size], _, _, H1, rfl, I2, turn_enumS x t k (s1.heap.objs.size + 1) s1.heap.objs.size hty, ⟨⟨.none, by rw [show k + ((0 : Nat) : Int) = k by omega]; exact he⟩, ⟨_, hit, rfl, rfl⟩, Nat.succ_ne_self _⟩, fun b hb => ?_, q⟩
    have e' : b = s1.heap.objs.size + 1 ∨ b = s1.heap.objs.size := by simpa using hb
    have hle : s1.heap.objs.size ≤ b := by
      rcases e' with z | z
      · rw [z]; exact Nat.le_add_right _ _
      · rw [z]; exact Nat.le_refl _
    exact I1.fpOk hle (I1.hok.fresh hle)
def YEnS (x : Str) (k : Int) : Nat → Hp → V → Hp → Prop := fun i H v H' => ∃ T c, v = .ref T ∧ H T = none ∧ H' = upd H T (.tup [.int (k + (i : Nat)), .str ⟨#[c]⟩]) ∧ x.cps[i]? = some c
theorem walk_enumS {x : Str} {k : Int} : Walk (Ites x k) x.cps.size (fun _ => True) (YEnS x k) :=
  ⟨fun _ _ hi _ => hi, fun _ _ => rfl, fun _ _ _ _ _ _ y => y⟩
section
variable {K : Frag} {cl : (Str → Addr) × Addr × Bool} {E : Kv.Er → L2.St → Hp → Prop} {W : Wd} {σ : L2.St} {H : Hp}
def enumS (k : Int) (l : List Nat) : List D := l.mapIdx fun i c => .tup [.int (k + (i : Nat)), .str ⟨#[c]⟩]
def mIEnumS (ma : M (List EV)) : M Itr := fun st => (ma st).bind fun as st1 => match as with
  | [.dat (.str x), .dat (.int k)] => if -(2 ^ 63) ≤ k ∧ k < 2 ^ 63 then .ok ⟨enumS k x.cps.toList, fun _ => True⟩ st1 else .stuck
  | _ => .stuck
theorem sI_enumS {t : TA} {mt : M (List EV)} (ha : SimA K cl E t mt) : SimI K cl E (iEnumS t) (mIEnumS mt) := by
  intro W σ H st I R q
  refine ha W σ H st I _ (Res.imp (Res.bind q) fun as st1 W1 H1 hm1 I1 x1 q1 v k fro => ?_)
  split at q1
  · rename_i x j
    cases k with
    | cons k1 t1 =>
      cases t1 with
      | cons k2 t2 =>
      cases t2
      cases k1
      cases k2
      split at q1
      · rename_i c
        refine ⟨x, j, rfl, c, q1.now I1 (Ites x j) (fun _ => True) (YEnS x j) ?_ ⟨fun _ _ _ _ _ _ _ => trivial, ?_⟩⟩
        · have : (enumS j x.cps.toList).length = x.cps.size := by simp [enumS]
          show Walk _ (enumS j x.cps.toList).length _ _
          rw [this]
          exact walk_enumS
        · rintro i d W2 σ2 H2 st2 v H3 ed I2 x2 c ⟨T, u, rfl, hT, rfl, eu⟩
          have ed : (enumS j x.cps.toList)[i]? = some d := ed
          unfold enumS at ed
          rw [List.getElem?_mapIdx, Array.getElem?_toList, eu] at ed
          cases ed
          exact ⟨_, I2.new hT, Ext.new I2 hT, .tup (SqT.of upd_same) (.cons (.int _) (.cons (.str _) .nil))⟩
      · exact q1.elim
  · exact q1.elim
end
/-! ### isinstance(e, X) in a suite -/
def rIsEK {K : Frag} {mg : Str → Option Value} (T : Kv.Errs K mg) (cls : Value) (d : Option Addr) (a : Addr) : List V → Hp → VK → Prop := fun xs H Q => ∃ (c : V) (cv : Value) (b : Bool), xs = [.ref a, c] ∧ (∀ u, RelV c u → u = cv) ∧ d = none ∧ ∃ er, cls = .ref (T.exa er) ∧ PySem.W.kitOne K (.ref (T.exa er)) cv = some b ∧ Q (.bl b) H
theorem call_isEK {X : Cx} {K : Frag} {mg : Str → Option Value} {T : Kv.Errs K mg} {a : Addr} {oe : Obj} {cls : Value} {d : Option Addr} {pn : List (Addr × Obj)} (hz : Zc cls d oe) (hf : ∃ vs, oe.data = .fields vs) (hK : X.K = K := by rfl) : CallR (X.suite a ((a, oe) :: pn)) (.builtin "isinstance") (rIsEK T cls d a) := by
  subst hK
  intro pins s σ H xs us Q I r h
  obtain ⟨c, cv, b, hx, hcv, hd, er, hc, hk, q⟩ := h
  subst hd hc
  exact call_isE (T.exc er) hz hf pins s σ H xs us Q I r ⟨c, cv, b, hx, hcv, hk, q⟩
section
variable {K : Frag} {E : Kv.Er → L2.St → Hp → Prop} {ta : TE} {ma : M EV}
theorem sE_isEK {mg : Str → Option Value} {T : Kv.Errs K mg} {c : Str → Addr} {a C : Addr} {er : Kv.Er} {b : Bool} (hk : PySem.W.kitOne K (.ref (T.exa er)) (.ref C) = some b) (ha : SimE K (c, a, false) E ta ma) : SimE K (c, a, false) E (tCB (rIsEK T (.ref (T.exa er)) none a) (tCons ta (tCons (tC (.ref C)) tNil))) (mIsE b ma) := by
  intro W σ H st I Q q
  refine ha W σ H st I _ (Res.imp (Res.bind q) fun ev st1 W1 H1 hm1 I1 x1 q1 v k => ?_)
  split at q1
  · have k : v = .ref W1.xa.1 := k
    exact ⟨.ref C, .ref C, b, by rw [k, I1.xeq], (fun u h => h), rfl, er, rfl, hk, q1.now I1 _ (.bl b)⟩
  · exact q1.elim
theorem sE_isET {mg : Str → Option Value} {T : Kv.Errs K mg} {c : Str → Addr} {a : Addr} {n : String} {er : Kv.Er} {b : Bool} (hk : PySem.W.kitOne K (.ref (T.exa er)) (.type n) = some b) (ha : SimE K (c, a, false) E ta ma) : SimE K (c, a, false) E (tCB (rIsEK T (.ref (T.exa er)) none a) (tCons ta (tCons (tC (.ty n)) tNil))) (mIsE b ma) := by
  intro W σ H st I Q q
  refine ha W σ H st I _ (Res.imp (Res.bind q) fun ev st1 W1 H1 hm1 I1 x1 q1 v k => ?_)
  split at q1
  · have k : v = .ref W1.xa.1 := k
    exact ⟨.ty n, .type n, b, by rw [k, I1.xeq], (fun u h => h), rfl, er, rfl, hk, q1.now I1 _ (.bl b)⟩
  · exact q1.elim
theorem rp_isE {b : Bool} {st : St} {k : EV → St → Prop} {e : Kv.Er → St → Prop} : Rp (mIsE b ma st) k e = Rp (ma st) (fun ev st1 => ev = .exc ∧ k (.dat (.bl b)) st1) e := by
  unfold mIsE
  rw [rp_bind]
  congr 1
  funext ev st1
  cases ev <;> simp [Rp]
end
/-! ### a, b = a list -/
section
variable {K : Frag} {cl : (Str → Addr) × Addr × Bool} {E : Kv.Er → L2.St → Hp → Prop}
def mgLst (n : Nat) (ms : List D → M Unit) : EV → M Unit
  | .dat (.lst ds) => if ds.length = n then ms ds else M.stuck
  | _ => M.stuck
theorem sG_lst {vs : List Nat} {n : Nat} {gs : TGs} {ms : List D → M Unit} (h : SimGs K cl E vs gs ms) : SimG K cl E vs (gLst K n gs) (mgLst n ms) := by
  intro W σ H st v ev I k Q q
  unfold mgLst at q
  split at q
  · rename_i ds
    cases k with
    | lst ht r =>
      split at q
      · rename_i hn
        exact ⟨_, _, rfl, I.sub.seq ht, by rw [r.len]; exact hn, h W σ H st _ _ I r Q q⟩
      · exact q.elim
  · exact q.elim
end
theorem rp_tryO {hit : Kv.Er → Bool} {mb : M Fl} {ms : Kv.Er → M Fl} {st : St} {kf : Fl → St → Prop} {e : Kv.Er → St → Prop} : Rp (mTryO hit mb ms st) kf e = Rp (mb st) kf (fun x st1 => if hit x = true then Rp (ms x st1) kf (fun _ _ => False) else e x st1) := by
  unfold mTryO
  cases h : mb st with
  | ok f st1 => rfl
  | stuck => rfl
  | err x st1 =>
    show Rp (if hit x = true then _ else _) kf e = if hit x = true then _ else _
    split
    · cases h2 : ms x st1 with
      | ok f st2 => rfl
      | err _ _ => rfl
      | stuck => rfl
    · rfl
theorem rp_split {ma mb : M EV} {st : St} {kx : BX → St → Prop} {e : Kv.Er → St → Prop} : Rp (mSplit ma mb st) kx e = Rp (ma st) (fun a st1 => ∃ z, a = .dat (.str z) ∧ Rp (mb st1) (fun b st2 => ∃ y, b = .dat (.str y) ∧ ((y.length == 0) = false ∧ z.length + 2 ≤ sizeLine) ∧ kx (.lst ((Txt.split z y).map .str)) st2) e) e := by
  unfold mSplit
  rw [rp_bind]
  congr 1
  funext a st1
  split
  · rename_i z
    rw [rp_bind]
    simp only [EV.dat.injEq, D.str.injEq, exists_eq_left']
    congr 1
    funext b st2
    split
    · rename_i y
      simp only [EV.dat.injEq, D.str.injEq, exists_eq_left']
      split
      · rename_i c; simp only [Rp, c, true_and]
      · rename_i c; simp only [Rp, eq_iff_iff, false_iff]; exact fun z => c z.1
    · rename_i h
      simp only [Rp, eq_iff_iff, false_iff]
      rintro ⟨y, rfl, _⟩
      exact h y rfl
  · rename_i h
    simp only [Rp, eq_iff_iff, false_iff]
    rintro ⟨z, rfl, _⟩
    exact h z rfl
/-! ### comprehensions, told by hand -/
section
variable {vs : List Nat} {chk : St → Prop} {mg : EV → M Unit} {me ma : M EV}
abbrev noE : Kv.Er → St → Prop := fun _ _ => False
theorem rp_lcL {ins : ∀ st, Decidable (chk st)} (I : Nat → List D → St → Prop) {kl : List D → St → Prop} : ∀ (ds : List D) (k : Nat) (acc : List D) (st : St), I k acc st → acc.length = k → k + ds.length ≤ sizeLine → (∀ i acc st, I i acc st → chk (st.wiped vs)) →
    (∀ i d acc st, k ≤ i → ds[i - k]? = some d → I i acc st → acc.length = i → Rp (mg (.dat d) (st.wiped vs)) (fun _ st1 => Rp (me st1) (fun ev st2 => Rp (toD ev st2) (fun x st3 => I (i + 1) (acc ++ [x]) st3) noE) noE) noE) →
    (∀ acc st, I (k + ds.length) acc st → acc.length = k + ds.length → kl acc st) → Rp (lcL vs chk mg (M.pure true) me ds acc st) kl noE
  | [], k, acc, st, h, ha, hl, hc, hs, hd => by
    unfold lcL
    rw [if_pos (hc k acc st h)]
    exact hd acc st (by simpa using h) (by simpa using ha)
  | d :: r, k, acc, st, h, ha, hl, hc, hs, hd => by
    unfold lcL
    rw [if_pos (hc k acc st h), rp_bind]
    have hl2 : acc.length < sizeLine := by rw [List.length_cons] at hl; omega
    refine rp_imp (hs k d acc st (Nat.le_refl k) (by simp) h ha) (fun _ st1 g => ?_) (fun _ _ z => z)
    rw [rp_bind, rp_pure, if_pos rfl, rp_bind]
    refine rp_imp g (fun ev st2 g => ?_) (fun _ _ z => z)
    rw [rp_bind]
    refine rp_imp g (fun x st3 g => ?_) (fun _ _ z => z)
    rw [if_pos hl2]
    exact rp_lcL I r (k + 1) (acc ++ [x]) st3 g (by simp [ha]) (by rw [List.length_cons] at hl; omega) hc (fun i d' acc' st' hi e => hs i d' acc' st' (by omega) (by rw [show i - k = (i - (k + 1)) + 1 by omega]; exact e)) (fun acc' st' h' hl' => hd acc' st' (by rw [List.length_cons, show k + (r.length + 1) = k + 1 + r.length by omega]; exact h') (by rw [hl', List.length_cons]; omega))
open Classical in
theorem rp_lc_of {mi : M Itr} {st st0 : St} {kx : BX → St → Prop} {e : Kv.Er → St → Prop} {it : Itr} (hi : mi st = .ok it st0) (h : Rp (lcL vs it.chk mg (M.pure true) me it.ds [] st0) (fun ds st2 => kx (.lst ds) { st2 with env := restE st0.env st2.env vs }) noE) : Rp (mLc vs mi mg (M.pure true) me st) kx e := by
  unfold mLc
  rw [hi]
  dsimp only [R.bind]
  generalize lcL vs it.chk mg (M.pure true) me it.ds [] st0 = r at h ⊢
  cases r with
  | ok ds st2 => exact h
  | err x st2 => exact h.elim
  | stuck => exact h.elim
/-- over a range; n given, the bound read without a change -/
theorem rp_lc_rng (n : Int) (I : Nat → List D → St → Prop) {st st0 : St} {kx : BX → St → Prop} {e : Kv.Er → St → Prop} (hn : -4611686018427387904 ≤ n ∧ n ≤ 1000000) (ha : ma st = .ok (.dat (.int n)) st0) (h0 : I 0 [] st0)
    (hs : ∀ (i : Nat) acc st, (i : Int) < n → I i acc st → acc.length = i → Rp (mg (.dat (.int (i : Int))) (st.wiped vs)) (fun _ st1 => Rp (me st1) (fun ev st2 => Rp (toD ev st2) (fun x st3 => I (i + 1) (acc ++ [x]) st3) noE) noE) noE)
    (hd : ∀ acc st1, I n.toNat acc st1 → acc.length = n.toNat → kx (.lst acc) { st1 with env := restE st0.env st1.env vs }) : Rp (mLc vs (mIRng1 (mCons ma (M.pure []))) mg (M.pure true) me st) kx e := by
  have hz : sizeLine = 16777216 := by decide
  have hlen : (rngD 0 n.toNat).length = n.toNat := by simp [rngD]
  refine rp_lc_of (it := ⟨rngD 0 n.toNat, fun _ => True⟩) (st0 := st0) ?_ ?_
  · unfold mIRng1 mCons
    rw [ha]
    simp only [R.bind, notTp, if_true, M.pure]
    rw [if_pos (show -2 ^ 62 ≤ n ∧ n < 2 ^ 62 from ⟨hn.1, by omega⟩)]
  · refine rp_lcL I _ 0 [] st0 h0 rfl (by rw [hlen]; omega) (fun _ _ _ _ => trivial) (fun i d acc st _ ed g hl => ?_) (fun acc st g hl => hd acc st ?_ ?_)
    · obtain ⟨rfl, hi⟩ := rng_get ed
      have := hs i acc st (by omega) g hl
      rw [Int.zero_add]
      exact this
    · rw [Nat.zero_add, hlen] at g
      exact g
    · rw [Nat.zero_add, hlen] at hl
      exact hl
/-- over a text -/
theorem rp_lc_str (l : List Nat) (I : Nat → List D → St → Prop) {st st0 : St} {kx : BX → St → Prop} {e : Kv.Er → St → Prop} (hl : l.length ≤ 1000000) (ha : ma st = .ok (.dat (.str (SX.S l))) st0) (h0 : I 0 [] st0)
    (hs : ∀ (i c : Nat) acc st, l[i]? = some c → I i acc st → acc.length = i → Rp (mg (.dat (.str (SX.S [c]))) (st.wiped vs)) (fun _ st1 => Rp (me st1) (fun ev st2 => Rp (toD ev st2) (fun x st3 => I (i + 1) (acc ++ [x]) st3) noE) noE) noE)
    (hd : ∀ acc st1, I l.length acc st1 → acc.length = l.length → kx (.lst acc) { st1 with env := restE st0.env st1.env vs }) : Rp (mLc vs (mIStr ma) mg (M.pure true) me st) kx e := by
  have hz : sizeLine = 16777216 := by decide
  refine rp_lc_of (it := ⟨l.map fun c => .str (SX.S [c]), fun _ => True⟩) (st0 := st0) ?_ ?_
  · unfold mIStr
    rw [ha]
    simp [R.bind, SX.S]
  · refine rp_lcL I _ 0 [] st0 h0 rfl (by rw [List.length_map]; omega) (fun _ _ _ _ => trivial) (fun i d acc st _ ed g hl => ?_) (fun acc st g hl => hd acc st ?_ ?_)
    · have ed : (l.map fun c => D.str (SX.S [c]))[i]? = some d := ed
      rw [List.getElem?_map] at ed
      cases e : l[i]? with
      | none => rw [e] at ed; cases ed
      | some c => rw [e] at ed; cases ed; exact hs i c acc st e g hl
    · rw [Nat.zero_add, List.length_map] at g
      exact g
    · rw [Nat.zero_add, List.length_map] at hl
      exact hl
/-- over enumerate(text, k) -/
theorem rp_lc_enumS (l : List Nat) (k : Int) (I : Nat → List D → St → Prop) {mk : M EV} {st st0 : St} {kx : BX → St → Prop} {e : Kv.Er → St → Prop} (hl : l.length ≤ 1000000) (hk : -9223372036854775808 ≤ k ∧ k < 9223372036854775808) (ha : (mCons ma (mCons mk (M.pure []))) st = .ok [.dat (.str (SX.S l)), .dat (.int k)] st0) (h0 : I 0 [] st0)
    (hs : ∀ (i c : Nat) acc st, l[i]? = some c → I i acc st → acc.length = i → Rp (mg (.dat (.tup [.int (k + (i : Int)), .str (SX.S [c])])) (st.wiped vs)) (fun _ st1 => Rp (me st1) (fun ev st2 => Rp (toD ev st2) (fun x st3 => I (i + 1) (acc ++ [x]) st3) noE) noE) noE)
    (hd : ∀ acc st1, I l.length acc st1 → acc.length = l.length → kx (.lst acc) { st1 with env := restE st0.env st1.env vs }) : Rp (mLc vs (mIEnumS (mCons ma (mCons mk (M.pure [])))) mg (M.pure true) me st) kx e := by
  have hz : sizeLine = 16777216 := by decide
  have hlen : (enumS k l).length = l.length := by simp [enumS]
  refine rp_lc_of (it := ⟨enumS k l, fun _ => True⟩) (st0 := st0) ?_ ?_
  · unfold mIEnumS
    rw [ha]
    show (if -(2 ^ 63) ≤ k ∧ k < 2 ^ 63 then _ else _) = _
    rw [if_pos (show -(2 ^ 63) ≤ k ∧ k < 2 ^ 63 from hk)]
  · refine rp_lcL I _ 0 [] st0 h0 rfl (by rw [hlen]; omega) (fun _ _ _ _ => trivial) (fun i d acc st _ ed g hl => ?_) (fun acc st g hl => hd acc st ?_ ?_)
    · have ed : (enumS k l)[i]? = some d := ed
      unfold enumS at ed
      rw [List.getElem?_mapIdx] at ed
      cases e : l[i]? with
      | none => rw [e] at ed; cases ed
      | some c => rw [e] at ed; cases ed; exact hs i c acc st e g hl
    · rw [Nat.zero_add, hlen] at g
      exact g
    · rw [Nat.zero_add, hlen] at hl
      exact hl
end
end Mi

set_option Elab.async false
set_option linter.all false
set_option maxRecDepth 100000
set_option maxHeartbeats 4000000
namespace Mi
open PySem PySem.Spec PyProof.Rows L2
section
variable {K : Frag} {cl : (Str → Addr) × Addr × Bool} {E : Kv.Er → L2.St → Hp → Prop} {W : Wd} {σ : L2.St} {H : Hp} {ta tb tc : TE} {ma mb mc : M EV}
/-! ### objects -/
/-- the fields of an object of the class -/
def obFs (st : St) (c : Str) (ev : EV) : Option (Nat × List (Str × FV)) := match ev with
  | .dat (.ob j) => match st.S[j]? with
    | some (.ins c' fs) => if c' = c then some (j, fs) else none
    | _ => none
  | _ => none
theorem obFs_ok {st : St} {c : Str} {ev : EV} {v : V} {j : Nat} {fs : List (Str × FV)} (I : Inv K cl W σ H st) (k : EvOk K W H σ v ev) (e : obFs st c ev = some (j, fs)) : ∃ a dx vs, v = .ref a ∧ ev = .dat (.ob j) ∧ st.S[j]? = some (.ins c fs) ∧ W.ρ[j]? = some a ∧ W.ow a = some (.ob j) ∧ W.ow dx = some (.dx j) ∧ H dx = some (.own a) ∧ H a = some (.ins (cl.1 c) dx vs) ∧ FsOk K W H j vs fs := by
  cases ev with
  | dat d =>
    cases d with
    | ob i =>
      unfold obFs at e
      dsimp only at e
      split at e
      · rename_i c' fs' es
        split at e
        · rename_i hc
          cases e
          subst hc
          obtain ⟨a, dx, vs, e1, e2, e3, e4, e5, kf⟩ := I.obs j _ es
          cases k with
          | ob h =>
            rw [h] at e1
            cases e1
            exact ⟨_, dx, vs, rfl, rfl, es, h, e2, e3, e4, e5, kf⟩
        · cases e
      · cases e
    | _ => cases e
  | _ => cases e
/-- o.f -/
def mFld (c f : Str) (ma : M EV) : M EV := fun st => (ma st).bind fun a st1 => match obFs st1 c a with
  | some (_, fs) => match fs.lookup f with
    | some (.dat d) => .ok (.dat d) st1
    | _ => .stuck
  | none => .stuck
theorem sE_fld {c f : Str} {C : Addr} (hC : cl.1 c = C) (kc : Cls K C) (na : NoAttr K C f) (ha : SimE K cl E ta ma) : SimE K cl E (tFld K ta f) (mFld c f ma) := by
  subst hC
  intro W σ H st I Q q
  refine ha W σ H st I _ (Res.imp (Res.bind q) fun a st1 W1 H1 _ I1 x1 q1 v k => ?_)
  split at q1
  · rename_i j fs e
    split at q1
    · rename_i d ef
      obtain ⟨p, dx, vs, rfl, rfl, es, _, _, _, _, e5, kf⟩ := obFs_ok I1 k e
      obtain ⟨u, hu, ku⟩ := fs_get kf ef
      exact ⟨p, _, dx, vs, u, rfl, e5, kc, na, hu, q1.now I1 u ku⟩
    · exact q1.elim
  · exact q1.elim
/-- a field is set -/
def putV (f : Str) (x : FV) : List (Str × FV) → List (Str × FV)
  | [] => [(f, x)]
  | (g, y) :: r => if g = f then (g, x) :: r else (g, y) :: putV f x r
theorem fs_set {j : Nat} {f : Str} {v : V} {x : FV} (k : FvOk K W H j f v x) : ∀ {vs : List (Str × V)} {fs : List (Str × FV)}, FsOk K W H j vs fs → FsOk K W H j (putF f v vs) (putV f x fs)
  | _, _, .nil => .cons k .nil
  | _, _, .cons (f := g) h t => by
    unfold putF putV
    by_cases c : g = f
    · subst c
      rw [if_pos rfl, if_pos rfl]
      exact .cons k t
    · rw [if_neg c, if_neg c]
      exact .cons h (fs_set k t)
theorem fs_len {j : Nat} : ∀ {vs : List (Str × V)} {fs : List (Str × FV)}, FsOk K W H j vs fs → vs.length = fs.length
  | _, _, .nil => rfl
  | _, _, .cons _ t => by rw [List.length_cons, List.length_cons, fs_len t]
theorem fs_none {j : Nat} {f : Str} : ∀ {vs : List (Str × V)} {fs : List (Str × FV)}, FsOk K W H j vs fs → fs.lookup f = none → vs.lookup f = none
  | _, _, .nil, _ => rfl
  | _, _, .cons (f := g) h t, e => by
    rw [List.lookup_cons] at e ⊢
    cases c : f == g with
    | true => rw [c] at e; cases e
    | false => rw [c] at e; exact fs_none t e
theorem Inv.setFld {st : St} {j : Nat} {c f : Str} {fs : List (Str × FV)} {a dx : Addr} {vs : List (Str × V)} {v : V} {d : D} (I : Inv K cl W σ H st) (e : st.S[j]? = some (.ins c fs)) (e1 : W.ρ[j]? = some a) (e2 : W.ow a = some (.ob j)) (e3 : W.ow dx = some (.dx j)) (e4 : H dx = some (.own a)) (kf : FsOk K W H j vs fs) (r : Rep K W.F W.ρ v d) :
    Inv K cl W σ (upd H a (.ins (cl.1 c) dx (putF f v vs))) { st with S := st.S.set j (.ins c (putV f (.dat d) fs)) } := by
  have hne : ∀ q t, W.ow q = some t → t ≠ .ob j → upd H a (.ins (cl.1 c) dx (putF f v vs)) q = H q := fun q t e n => by
    have c : q ≠ a := fun c => by subst c; rw [e2] at e; cases e; exact n rfl
    exact upd_ne c
  refine ⟨I.xeq, I.nt, sub_upd I.sub (I.out a _ e2).1, out_upd I, I.inj, I.len, fun i sv ej => ?_, fun i b ej => ?_, by simp [I.rlen], fun i o' ei => ?_⟩
  · exact (I.slots i sv ej).kp (Same.refl _) (List.prefix_refl _) (fun _ _ h _ => h) fun q h => ⟨hne q _ h (by simp), h⟩
  · obtain ⟨q, h, k2⟩ := I.ios i b ej
    exact ⟨q, h, k2.kp (Same.refl _) (List.prefix_refl _) (hne q _ h (by simp))⟩
  · by_cases cc : j = i
    · subst cc
      have := get_set_eq e ei
      subst this
      refine ⟨a, dx, _, e1, e2, e3, (hne dx _ e3 (by simp)).trans e4, upd_same, fs_set (x := .dat d) (r : Rep K W.F W.ρ v d) (kf.kp (Same.refl _) (List.prefix_refl _) fun p g h => ⟨hne p _ h (by simp), h⟩)⟩
    · have ei : (st.S.set j (.ins c (putV f (.dat d) fs)))[i]? = some o' := ei
      rw [get_set_ne cc] at ei
      exact (I.obs i o' ei).kp (Same.refl _) (List.prefix_refl _) fun q t h z => ⟨hne q t h (by
        rcases z with z | z | ⟨g, z⟩
        · rw [z]; intro y; cases y; exact cc rfl
        · simp [z]
        · simp [z]), h⟩
/-- o.f = value -/
def setO (c f : Str) (ev : EV) (d : D) : M Fl := fun st => match obFs st c ev with
  | some (j, fs) => if fs.length < 1000 then .ok .nx { st with S := st.S.set j (.ins c (putV f (.dat d) fs)) } else .stuck
  | none => .stuck
def mFldS (c f : Str) (ma mv : M EV) : M Fl := fun st => (mv st).bind fun ev st1 => (toD ev st1).bind fun d st2 => (ma st2).bind fun a st3 => setO c f a d st3
theorem setO_ok {c f : Str} {ev : EV} {d : D} {st : St} {v y : V} {D : Ends} (I : Inv K cl W σ H st) (k : EvOk K W H σ v ev) (r : Rep K W.F W.ρ y d) (q : ResS K cl E W H (setO c f ev d st) D) : ∃ a dx vs, v = .ref a ∧ H a = some (.ins (cl.1 c) dx vs) ∧ vs.length < 1000 ∧ D.nx σ (upd H a (.ins (cl.1 c) dx (putF f y vs))) := by
  unfold setO at q
  split at q
  · rename_i j fs e
    split at q
    · rename_i hl
      obtain ⟨a, dx, vs, rfl, rfl, es, e1, e2, e3, e4, e5, kf⟩ := obFs_ok I k e
      refine ⟨a, dx, vs, rfl, e5, by rw [fs_len kf]; exact hl, ?_⟩
      exact q σ W _ (I.setFld es e1 e2 e3 e4 kf r) (Ext.mut e2 (by simp) (nofz e5 nofz_ins))
    · exact q.elim
  · exact q.elim
theorem sS_fld {c f : Str} {C : Addr} {tv : TE} {mv : M EV} (hC : cl.1 c = C) (kc : Cls K C) (na : NoAttr K C f) (ha : SimE K cl E ta ma) (hv : SimE K cl E tv mv) : SimS K cl E (sFld K ta tv f) (mFldS c f ma mv) := by
  subst hC
  intro W σ H st I D q
  refine hv W σ H st I _ (Res.imp (ResS.bind q) fun ev st1 W1 H1 _ I1 x1 q1 y k => ?_)
  obtain ⟨d, st2, W2, I2, x2, r, q2⟩ := toD_ok I1 k (ResS.bind q1)
  refine ha W2 σ H1 st2 I2 _ (Res.imp (ResS.bind q2) fun a st3 W3 H3 _ I3 x3 q3 v kv => ?_)
  obtain ⟨p, dx, vs, rfl, e5, hl, qq⟩ := setO_ok I3 kv (Rep.ext x3 r) q3
  exact ⟨p, _, dx, vs, rfl, e5, kc, na, hl, qq⟩
/-- o.f op= value -/
def mFldA (c f : Str) (g : D → D → Option D) (ma mv : M EV) : M Fl := fun st => (ma st).bind fun a st1 => match obFs st1 c a with
  | some (_, fs) => match fs.lookup f with
    | some (.dat x) => (mv st1).bind fun b st2 => match b with
      | .dat y => match g x y with
        | some z => setO c f a z st2
        | none => .stuck
      | _ => .stuck
    | _ => .stuck
  | none => .stuck
def AuOk (rd : V → V → Hp → VK → Prop) (g : D → D → Option D) : Prop := ∀ x y z, g x y = some z → ∃ vx vy vz, scV x = some vx ∧ scV y = some vy ∧ scV z = some vz ∧ ∀ H (Q : VK), Q vz H → rd vx vy H Q
theorem au_add : AuOk rAdd (iOp (fun _ _ => True) fun i j => .int (i + j)) := fun x y z e => by
  cases x <;> cases y <;> simp only [iOp, reduceCtorEq] at e
  simp only [if_pos, Option.some.injEq] at e
  subst e
  exact ⟨_, _, _, rfl, rfl, rfl, fun H Q q => ⟨_, _, rfl, rfl, q⟩⟩
theorem au_sub : AuOk rSub (iOp (fun _ _ => True) fun i j => .int (i - j)) := fun x y z e => by
  cases x <;> cases y <;> simp only [iOp, reduceCtorEq] at e
  simp only [if_pos, Option.some.injEq] at e
  subst e
  exact ⟨_, _, _, rfl, rfl, rfl, fun H Q q => ⟨_, _, rfl, rfl, q⟩⟩
theorem sS_fldA {c f : Str} {tv : TE} {mv : M EV} {rd : V → V → Hp → VK → Prop} {g : D → D → Option D} {C : Addr} (hC : cl.1 c = C) (kc : Cls K C) (na : NoAttr K C f) (hg : AuOk rd g) (ha : SimE K cl E ta ma) (hv : SimE K cl E tv mv) : SimS K cl E (sFldAug K ta tv rd f) (mFldA c f g ma mv) := by
  subst hC
  intro W σ H st I D q
  refine ha W σ H st I _ (Res.imp (ResS.bind q) fun a st1 W1 H1 _ I1 x1 q1 v k => ?_)
  split at q1
  · rename_i j fs e
    split at q1
    · rename_i x ef
      obtain ⟨p, dx, vs, rfl, rfl, es, _, _, _, _, e5, kf⟩ := obFs_ok I1 k e
      obtain ⟨u, hu, ku⟩ := fs_get kf ef
      refine ⟨p, _, dx, vs, u, rfl, e5, kc, na, hu, hv W1 σ H1 st1 I1 _ (Res.imp (ResS.bind q1) fun b st2 W2 H2 _ I2 x2 q2 vb kb => ?_)⟩
      split at q2
      · rename_i y _
        split at q2
        · rename_i z ez
          obtain ⟨vx, vy, vz, ex, ey, ed, kk⟩ := hg x y z ez
          rw [scV_rep ex ku, scV_rep ey kb]
          refine kk H2 _ ?_
          obtain ⟨p', dx', vs', ep, e5', hl, qq⟩ := setO_ok I2 (k.ext x2) (scV_mk ed) q2
          cases ep
          refine ⟨dx', vs', e5', hl, qq⟩
        · exact q2.elim
      · exact q2.elim
    · exact q1.elim
  · exact q1.elim
/-! ### a method -/
def obM (st : St) (c m : Str) (ev : EV) : Bool := match obFs st c ev with
  | some (_, fs) => (fs.lookup m).isNone
  | none => false
def mMeth0 (c nm : Str) (n : Nat) (m : Fn) (ma : M EV) (mt : M (List EV)) : M (EV ⊕ BX) := fun st => (ma st).bind fun a st1 => if obM st1 c nm a = true then (mt st1).bind fun evs st2 => callR n m (a :: evs) st2 else .stuck
def mMeth (c nm : Str) (n : Nat) (m : Fn) (ma : M EV) (mt : M (List EV)) : M EV := fun st => (mMeth0 c nm n m ma mt st).bind frzR
def mMethN (c nm : Str) (n : Nat) (m : Fn) (ma : M EV) (mt : M (List EV)) : M BX := fun st => (mMeth0 c nm n m ma mt st).bind newR
theorem obM_ok {st : St} {c m : Str} {ev : EV} {v : V} (I : Inv K cl W σ H st) (k : EvOk K W H σ v ev) (e : obM st c m ev = true) : ∃ a dx vs j, v = .ref a ∧ ev = .dat (.ob j) ∧ H a = some (.ins (cl.1 c) dx vs) ∧ vs.lookup m = none := by
  unfold obM at e
  split at e
  · rename_i j fs eo
    obtain ⟨a, dx, vs, rfl, rfl, es, e1, e2, e3, e4, e5, kf⟩ := obFs_ok I k eo
    exact ⟨a, dx, vs, j, rfl, rfl, e5, fs_none kf (by cases h : fs.lookup m with | none => rfl | some _ => rw [h] at e; cases e)⟩
  · cases e
end
section
variable {K : Frag} {E : Kv.Er → L2.St → Hp → Prop} {W : Wd} {σ : L2.St} {H : Hp} {ta tb tc : TE} {ma mb mc : M EV}
theorem sE_meth {c : Str → Addr} {xa C : Addr} {cn nm : Str} (hC : c cn = C) {ex : Kv.Er → Addr} {X : L2.St → XK} {n : Nat} {m : Fn} {t : TA} {mt : M (List EV)} (hE : ∀ e σ H, (∃ as bs S io S', m as bs S = .err e io S') → E e σ H → X σ (.ref (ex e)) none H) (ha : SimE K (c, xa, false) E ta ma) (ht : SimA K (c, xa, false) E t mt) :
    SimE K (c, xa, false) E (fun σ H Q => ta σ H fun x H1 => ∃ a dx fs, x = .ref a ∧ H1 a = some (.ins C dx fs) ∧ fs.lookup nm = none ∧ t σ H1 fun vs H2 => spM K c ex n m (x :: (vs ++ [])) H2 Q (X σ)) (mMeth cn nm n m ma mt) := by
  subst hC
  intro W σ H st I Q q
  unfold mMeth mMeth0 at q
  rw [R.bind_assoc] at q
  refine ha W σ H st I _ (Res.imp (Res.bind q) fun a st1 W1 H1 hm1 I1 x1 q1 v k => ?_)
  split at q1
  rotate_left
  · exact q1.elim
  rename_i hob
  obtain ⟨p, dx, fs, j, rfl, rfl, e5, hl⟩ := obM_ok I1 k hob
  refine ⟨p, dx, fs, rfl, e5, hl, ?_⟩
  rw [R.bind_assoc] at q1
  refine ht W1 σ H1 st1 I1 _ (Res.imp (Res.bind q1) fun evs st2 W2 H2 hm2 I2 x2 q2 vs ks fsr => ?_)
  rw [hm2] at q1
  have q : Res K (c, xa, false) E W1 σ H1 ((callR n m (.dat (.ob j) :: evs) st2).bind frzR) (fun ev _ W' H' => ∀ v, EvOk K W' H' σ v ev → Q v H') := q1
  refine call_ok (vs := .ref p :: vs) I1 I2 x2 (.cons (k.ext x2) ks) (.cons (fun b e => by cases e) fsr) (fun z => by rw [z] at q; exact q) (fun e st' z w W' H' I' x' => by rw [z] at q; exact hE e σ H' w (q W' H' I' x')) fun x st' W' H' v z I' x' _ k1 k2 => ?_
  rw [z] at q
  cases x with
  | inl ev => exact q W' H' I' x' v (k1 ev rfl)
  | inr b =>
    cases b with
    | dct _ => exact q.elim
    | fz _ => exact q.elim
    | lst ds =>
      obtain ⟨p, rfl, n1, n2, n3, us, e, r⟩ := k2 _ rfl
      exact q _ _ (I'.know e n3 n2) (x'.know n1 n2) _ (.lst (SqL.of upd_same) (r.mono (Kv.same_upd n2) (List.prefix_refl _)))
theorem sN_meth {c : Str → Addr} {xa C : Addr} {cn nm : Str} (hC : c cn = C) {ex : Kv.Er → Addr} {X : L2.St → XK} {n : Nat} {m : Fn} {t : TA} {mt : M (List EV)} (hE : ∀ e σ H, (∃ as bs S io S', m as bs S = .err e io S') → E e σ H → X σ (.ref (ex e)) none H) (ha : SimE K (c, xa, false) E ta ma) (ht : SimA K (c, xa, false) E t mt) :
    SimN K (c, xa, false) E (fun σ H Q => ta σ H fun x H1 => ∃ a dx fs, x = .ref a ∧ H1 a = some (.ins C dx fs) ∧ fs.lookup nm = none ∧ t σ H1 fun vs H2 => spM K c ex n m (x :: (vs ++ [])) H2 Q (X σ)) (mMethN cn nm n m ma mt) := by
  subst hC
  intro W σ H st I Q q
  unfold mMethN mMeth0 at q
  rw [R.bind_assoc] at q
  refine ha W σ H st I _ (Res.imp (Res.bind q) fun a st1 W1 H1 hm1 I1 x1 q1 v k => ?_)
  split at q1
  rotate_left
  · exact q1.elim
  rename_i hob
  obtain ⟨p, dx, fs, j, rfl, rfl, e5, hl⟩ := obM_ok I1 k hob
  refine ⟨p, dx, fs, rfl, e5, hl, ?_⟩
  rw [R.bind_assoc] at q1
  refine ht W1 σ H1 st1 I1 _ (Res.imp (Res.bind q1) fun evs st2 W2 H2 hm2 I2 x2 q2 vs ks fsr => ?_)
  rw [hm2] at q1
  have q : Res K (c, xa, false) E W1 σ H1 ((callR n m (.dat (.ob j) :: evs) st2).bind newR) (fun b _ W' H' => ∀ p, H p = none → W'.F p = none → W'.ow p = none → BxOk K W' H' p b → Q (.ref p) H') := q1
  refine call_ok (vs := .ref p :: vs) I1 I2 x2 (.cons (k.ext x2) ks) (.cons (fun b e => by cases e) fsr) (fun z => by rw [z] at q; exact q) (fun e st' z w W' H' I' x' => by rw [z] at q; exact hE e σ H' w (q W' H' I' x')) fun x st' W' H' v z I' x' _ k1 k2 => ?_
  rw [z] at q
  cases x with
  | inl ev => exact q.elim
  | inr b =>
    obtain ⟨p, rfl, n1, n2, n3, kb⟩ := k2 _ rfl
    exact q W' H' I' x' p (x1.lv p n1) n2 n3 kb
/-! ### a new object -/
def Wd.newO (W : Wd) (n : Nat) (x dx : Addr) : Wd := { W with ρ := W.ρ ++ [x], ow := fun p => if p = x then some (.ob n) else if p = dx then some (.dx n) else W.ow p }
theorem newO_ok {cl : (Str → Addr) × Addr × Bool} {st : St} {cn : Str} {x dx : Addr} (I : Inv K cl W σ H st) (hx : H x = none) (hd : H dx = none) (ne : dx ≠ x) :
    Inv K cl (W.newO st.S.length x dx) σ (upd (upd H dx (.own x)) x (.ins (cl.1 cn) dx [])) { st with S := st.S ++ [.ins cn []] } ∧ Ext W H (W.newO st.S.length x dx) (upd (upd H dx (.own x)) x (.ins (cl.1 cn) dx [])) := by
  obtain ⟨fx1, fx2⟩ := I.free hx
  obtain ⟨fd1, fd2⟩ := I.free hd
  have o1 : ∀ {p : Addr} {t : Tag}, W.ow p = some t → p ≠ x ∧ p ≠ dx := fun {p t} h => ⟨fun c => (by subst c; rw [fx1] at h; cases h), fun c => (by subst c; rw [fd1] at h; cases h)⟩
  have l1 : ∀ {p : Addr} {o : HO}, H p = some o → p ≠ x ∧ p ≠ dx := fun {p o} h => ⟨fun c => (by subst c; rw [hx] at h; cases h), fun c => (by subst c; rw [hd] at h; cases h)⟩
  have up : ∀ {p : Addr} {t : Tag}, W.ow p = some t → (W.newO st.S.length x dx).ow p = some t := fun {p t} h => by
    show (if p = x then _ else if p = dx then _ else W.ow p) = _
    rw [if_neg (o1 h).1, if_neg (o1 h).2]; exact h
  have dn : ∀ {p : Addr} {t : Tag}, (W.newO st.S.length x dx).ow p = some t → (p = x ∧ t = .ob st.S.length) ∨ (p = dx ∧ t = .dx st.S.length) ∨ W.ow p = some t := fun {p t} h => by
    have h : (if p = x then some (Tag.ob st.S.length) else if p = dx then some (.dx st.S.length) else W.ow p) = some t := h
    split at h
    · rename_i c; cases h; exact .inl ⟨c, rfl⟩
    · split at h
      · rename_i c; cases h; exact .inr (.inl ⟨c, rfl⟩)
      · exact .inr (.inr h)
  have hH : ∀ {p : Addr}, p ≠ x → p ≠ dx → upd (upd H dx (.own x)) x (.ins (cl.1 cn) dx []) p = H p := fun {p} a b => by rw [upd_ne a, upd_ne b]
  have rr : W.ρ <+: (W.newO st.S.length x dx).ρ := List.prefix_append W.ρ [x]
  refine ⟨⟨I.xeq, fun z p k h => ?_, fun p u e => ?_, fun p t h => ?_, fun p q t h h' n => ?_, I.len, fun i sv e => ?_, fun k b e => ?_, ?_, fun j o e => ?_⟩, ⟨Same.refl _, rr, fun p t h _ => up h, fun p o h _ => (hH (l1 h).1 (l1 h).2).trans h, fun p h => ?_, fun p o h n => ?_, fun p h => ?_, fun p o _ _ f => f, rfl⟩⟩
  · rcases dn h with ⟨_, c⟩ | ⟨_, c⟩ | h
    · cases c
    · cases c
    · exact I.nt z p k h
  · have e' := I.sub p u e
    exact (hH (l1 e').1 (l1 e').2).trans e'
  · rcases dn h with ⟨rfl, rfl⟩ | ⟨rfl, rfl⟩ | h
    · exact ⟨fx2, _, upd_same⟩
    · exact ⟨fd2, _, by rw [upd_ne ne, upd_same]⟩
    · obtain ⟨z, o, e⟩ := I.out p t h
      exact ⟨z, o, (hH (l1 e).1 (l1 e).2).trans e⟩
  · rcases dn h with ⟨_, rfl⟩ | ⟨_, rfl⟩ | h
    · cases n
    · cases n
    · rcases dn h' with ⟨_, rfl⟩ | ⟨_, rfl⟩ | h'
      · cases n
      · cases n
      · exact I.inj p q t h h' n
  · exact (I.slots i sv e).kp (W := W) (W' := W.newO st.S.length x dx) (Same.refl _) rr (fun p t h _ => up h) fun p h => ⟨hH (o1 h).1 (o1 h).2, up h⟩
  · obtain ⟨p, o, kb⟩ := I.ios k b e
    exact ⟨p, up o, kb.kp (W := W) (Same.refl _) rr (hH (o1 o).1 (o1 o).2)⟩
  · show (W.ρ ++ [x]).length = (st.S ++ [_]).length
    rw [List.length_append, List.length_append, I.rlen]; rfl
  · have e : (st.S ++ [Ob.ins cn []])[j]? = some o := e
    by_cases c : j < st.S.length
    · rw [List.getElem?_append_left c] at e
      exact (I.obs j o e).kp (W := W) (W' := W.newO st.S.length x dx) (Same.refl _) rr fun p t h _ => ⟨hH (o1 h).1 (o1 h).2, up h⟩
    · have hj : j = st.S.length := by
        have := (List.getElem?_eq_some_iff.mp e).1
        rw [List.length_append] at this
        simp at this; omega
      subst hj
      rw [List.getElem?_append_right (Nat.le_refl _), Nat.sub_self] at e
      cases e
      refine ⟨x, dx, [], ?_, ?_, ?_, ?_, upd_same, .nil⟩
      · show (W.ρ ++ [x])[st.S.length]? = _
        rw [← I.rlen, List.getElem?_append_right (Nat.le_refl _), Nat.sub_self]; rfl
      · show (if x = x then _ else _) = _
        rw [if_pos rfl]
      · show (if dx = x then _ else if dx = dx then _ else _) = _
        rw [if_neg ne, if_pos rfl]
      · rw [upd_ne ne, upd_same]
  · rcases dn h with ⟨_, c⟩ | ⟨_, c⟩ | h
    · cases c
    · cases c
    · exact h
  · show (if p = x then _ else if p = dx then _ else W.ow p) = _
    rw [if_neg (l1 h).1, if_neg (l1 h).2]; exact n
  · by_cases c : p = x
    · rw [c]; exact hx
    · by_cases c' : p = dx
      · rw [c']; exact hd
      · rw [hH c c'] at h; exact h
def madeR (k : Nat) : EV ⊕ BX → St → R EV
  | .inl (.dat .non), st => .ok (.dat (.ob k)) st
  | _, _ => .stuck
def mMake (cn : Str) (n : Nat) (m : Fn) (mt : M (List EV)) : M EV := fun st => (mt st).bind fun evs st1 => (callR n m (.dat (.ob st1.S.length) :: evs) { st1 with S := st1.S ++ [.ins cn []] }).bind (madeR st1.S.length)
theorem EvsOk.ext {W W' : Wd} {H H' : Hp} (x : Ext W H W' H') : ∀ {vs : List V} {evs : List EV}, EvsOk K W H σ vs evs → EvsOk K W' H' σ vs evs
  | _, _, .nil => .nil
  | _, _, .cons h t => .cons (h.ext x) (t.ext x)
theorem sE_make {c : Str → Addr} {xa C : Addr} {cn : Str} (hC : c cn = C) {ex : Kv.Er → Addr} {X : L2.St → XK} {n : Nat} {m : Fn} {t : TA} {mt : M (List EV)} (hE : ∀ e σ H, (∃ as bs S io S', m as bs S = .err e io S') → E e σ H → X σ (.ref (ex e)) none H) (ht : SimA K (c, xa, false) E t mt) :
    SimE K (c, xa, false) E (fun σ H Q => t σ H fun vs H1 => ∀ x dx, H1 x = none → H1 dx = none → dx ≠ x → spM K c ex n m (.ref x :: (vs ++ [])) (upd (upd H1 dx (.own x)) x (.ins C dx [])) (fun v H2 => v = .non ∧ Q (.ref x) H2) (X σ)) (mMake cn n m mt) := by
  subst hC
  intro W σ H st I Q q
  unfold mMake at q
  refine ht W σ H st I _ (Res.imp (Res.bind q) fun evs st1 W1 H1 hm1 I1 x1 q1 vs ks fsr x dx hx hd ne => ?_)
  rw [hm1] at q
  have q : Res K (c, xa, false) E W σ H ((callR n m (.dat (.ob st1.S.length) :: evs) { st1 with S := st1.S ++ [.ins cn []] }).bind (madeR st1.S.length)) (fun ev _ W' H' => ∀ v, EvOk K W' H' σ v ev → Q v H') := q
  obtain ⟨I2, x2⟩ := newO_ok (cn := cn) I1 hx hd ne
  have hr : (W1.newO st1.S.length x dx).ρ[st1.S.length]? = some x := by
    show (W1.ρ ++ [x])[st1.S.length]? = _
    rw [← I1.rlen, List.getElem?_append_right (Nat.le_refl _), Nat.sub_self]; rfl
  refine call_ok (vs := .ref x :: vs) I I2 (x1.trans x2) (.cons (ev := .dat (.ob st1.S.length)) (Rep.ob hr) (ks.ext x2)) (.cons (fun b e => by cases e) fsr) (fun z => by rw [z] at q; exact q) (fun e st' z w W' H' I' x' => by rw [z] at q; exact hE e σ H' w (q W' H' I' x')) fun y st' W' H' v z I' x' r k1 k2 => ?_
  rw [z] at q
  cases y with
  | inr b => exact q.elim
  | inl ev =>
    cases ev with
    | dat d =>
      cases d with
      | non =>
        cases k1 _ rfl
        exact ⟨rfl, q W' H' I' x' _ (Rep.mono (Same.refl _) r (.ob hr))⟩
      | _ => exact q.elim
    | _ => exact q.elim
/-- .. in a body whose errors are caught -/
def tMethT (C : Addr) (m : Str) (sp : Sp) (E : L2.St → XK) (ta : TE) (t : TA) : TE := fun σ H Q => ta σ H fun x H1 => ∃ a dx fs, x = .ref a ∧ H1 a = some (.ins C dx fs) ∧ fs.lookup m = none ∧ t σ H1 fun vs H2 => sp (x :: vs) H2 Q (E σ)
theorem sE_methT {c : Str → Addr} {xa C : Addr} {cn nm : Str} (hC : c cn = C) {ex : Kv.Er → Addr} {X : L2.St → XK} {n : Nat} {m : Fn} {t : TA} {mt : M (List EV)} (hE : ∀ e σ H, (∃ as bs S io S', m as bs S = .err e io S') → E e σ H → X σ (.ref (ex e)) none H) (ha : SimE K (c, xa, false) E ta ma) (ht : SimA K (c, xa, false) E t mt) : SimE K (c, xa, false) E (tMethT C nm (spM K c ex n m) X ta t) (mMeth cn nm n m ma mt) := by
  have := sE_meth (nm := nm) (X := X) (ex := ex) (n := n) hC hE ha ht
  simp only [List.append_nil] at this
  exact this
section
variable {X : Cx} {CX : CXT} {k : Nat} {f C : Addr} {fd : FuncData} {ps : List Str} {sp : Sp} {EE : L2.St → XK} {m : Str} {pos apos : Pos} {e o : Expr} {es : List Expr} {t : TA}
theorem pe_methT {pl : Sem Bool} (he : PE X o ta) (c : Cls X.K C) (hm : Meth X.K C m f) (F : FnOk X.prog X.w X.K X.mg X.base CX k f fd ps sp) (hr : Room k X.A) (hb : Binds X.K fd ps []) (hx : ∀ σ, PassesAt CX X σ (EE σ)) (ha : PA X (e :: es) t)
    (hst : starEach (e :: es) X.env = (false, eval e X.env) :: starEach es X.env := by rfl) (hpl : (backTo pos (starEach es X.env)).any (·.1) = false := by rfl)
    (ht : eval (.Call (.Attribute o m apos) (e :: es) [] pos) X.env = (do
      let ov ← eval o X.env
      standAt apos.atName
      let (f, first) ← holding [ov] (getMethod ov m pl)
      callWith pos f first (backTo pos (starEach (e :: es) X.env)) (backToKw pos (keywordEach [] X.env))) := by rfl) :
    PE X (.Call (.Attribute o m apos) (e :: es) [] pos) (tMethT C m sp EE ta t) := by
  refine ⟨fun pins s σ H Q I h => ?_⟩
  refine PySem.W.methodCall_KW (pl := pl) (thn (he.run pins s σ H _ I h) fun u s1 ⟨x, H1, I1, rx, a, dx, fs, ex, ea, l, q⟩ => ?_) ht
  subst ex
  obtain rfl : u = Value.ref a := rx
  refine getmeth_ok I1 ea c hm l ?_
  refine PySem.W.callWith_K (first := [.ref a]) (h₀ := X.base) I.ok.mod.kin hm.kp (thn (ha.run pos pins s1 σ H1 _ I1 q) fun us s2 ⟨vs, H2, I2, r, q2⟩ => ⟨I2.kIn, ?_⟩) hst hpl
  exact run_fnS (us := .ref a :: us) (vs := .ref a :: vs) F hr hb (hx σ) I2 (.cons rfl r) q2
end
end
section
variable {K : Frag} {cl : (Str → Addr) × Addr × Bool} {E : Kv.Er → L2.St → Hp → Prop} {W : Wd} {σ : L2.St} {H : Hp} {ta tb tc : TE} {ma mb mc : M EV}
/-! ### a list or dict of its own place -/
def Wd.newB (W : Wd) (n : Nat) (x : Addr) : Wd := { W with ρ := W.ρ ++ [x], ow := fun p => if p = x then some (.ob n) else W.ow p }
theorem newB_ok {st : St} {x : Addr} {b : BX} {W0 : Wd} {H0 : Hp} (I : Inv K cl W σ H st) (x0 : Ext W0 H0 W H) (n0 : H0 x = none) (z1 : W.F x = none) (z2 : W.ow x = none) (kb : BxOk K W H x b) :
    Inv K cl (W.newB st.S.length x) σ H { st with S := st.S ++ [.bx b] } ∧ Ext W0 H0 (W.newB st.S.length x) H ∧ (W.newB st.S.length x).ρ[st.S.length]? = some x := by
  obtain ⟨u, hu⟩ : ∃ u, H x = some u := by
    cases b with
    | lst ds => obtain ⟨vs, e, _⟩ := kb; exact ⟨_, e⟩
    | dct ds => obtain ⟨vs, e, _⟩ := kb; exact ⟨_, e⟩
    | fz ds => obtain ⟨_, vs, e, _⟩ := kb; exact ⟨_, e⟩
  have o1 : ∀ {p : Addr} {t : Tag}, W.ow p = some t → p ≠ x := fun {p t} h c => by subst c; rw [z2] at h; cases h
  have up : ∀ {p : Addr} {t : Tag}, W.ow p = some t → (W.newB st.S.length x).ow p = some t := fun {p t} h => by
    show (if p = x then _ else W.ow p) = _
    rw [if_neg (o1 h)]; exact h
  have dn : ∀ {p : Addr} {t : Tag}, (W.newB st.S.length x).ow p = some t → (p = x ∧ t = .ob st.S.length) ∨ W.ow p = some t := fun {p t} h => by
    have h : (if p = x then some (Tag.ob st.S.length) else W.ow p) = some t := h
    split at h
    · rename_i c; cases h; exact .inl ⟨c, rfl⟩
    · exact .inr h
  have rr : W.ρ <+: (W.newB st.S.length x).ρ := List.prefix_append W.ρ [x]
  have hr : (W.newB st.S.length x).ρ[st.S.length]? = some x := by
    show (W.ρ ++ [x])[st.S.length]? = _
    rw [← I.rlen, List.getElem?_append_right (Nat.le_refl _), Nat.sub_self]; rfl
  refine ⟨⟨I.xeq, fun z p k h => ?_, I.sub, fun p t h => ?_, fun p q t h h' n => ?_, I.len, fun i sv e => ?_, fun k b e => ?_, ?_, fun j o e => ?_⟩, ⟨x0.sF, x0.rr.trans rr, fun p t h n => up (x0.ow p t h n), x0.un, fun p h => ?_, fun p o h n => ?_, x0.lv, x0.fz, x0.xa⟩, hr⟩
  · rcases dn h with ⟨_, c⟩ | h
    · cases c
    · exact I.nt z p k h
  · rcases dn h with ⟨rfl, rfl⟩ | h
    · exact ⟨z1, _, hu⟩
    · exact I.out p t h
  · rcases dn h with ⟨_, rfl⟩ | h
    · cases n
    · rcases dn h' with ⟨_, rfl⟩ | h'
      · cases n
      · exact I.inj p q t h h' n
  · exact (I.slots i sv e).kp (W := W) (W' := W.newB st.S.length x) (Same.refl _) rr (fun p t h _ => up h) fun p h => ⟨rfl, up h⟩
  · obtain ⟨p, o, kb⟩ := I.ios k b e
    exact ⟨p, up o, kb.kp (W := W) (Same.refl _) rr rfl⟩
  · show (W.ρ ++ [x]).length = (st.S ++ [_]).length
    rw [List.length_append, List.length_append, I.rlen]; rfl
  · have e : (st.S ++ [Ob.bx b])[j]? = some o := e
    by_cases c : j < st.S.length
    · rw [List.getElem?_append_left c] at e
      exact (I.obs j o e).kp (W := W) (W' := W.newB st.S.length x) (Same.refl _) rr fun p t h _ => ⟨rfl, up h⟩
    · have hj : j = st.S.length := by
        have := (List.getElem?_eq_some_iff.mp e).1
        rw [List.length_append] at this
        simp at this; omega
      subst hj
      rw [List.getElem?_append_right (Nat.le_refl _), Nat.sub_self] at e
      cases e
      refine ⟨x, hr, ?_, kb.kp (W := W) (Same.refl _) rr rfl⟩
      show (if x = x then _ else _) = _
      rw [if_pos rfl]
  · rcases dn h with ⟨_, c⟩ | h
    · cases c
    · exact x0.xt p h
  · show (if p = x then _ else W.ow p) = _
    rw [if_neg (fun c => by subst c; rw [n0] at h; cases h)]; exact x0.nw p o h n
def mBox (mn : M BX) : M EV := fun st => (mn st).bind fun b st1 => .ok (.dat (.ob st1.S.length)) { st1 with S := st1.S ++ [.bx b] }
theorem sE_box {te : TE} {mn : M BX} (h : SimN K cl E te mn) : SimE K cl E te (mBox mn) := by
  intro W σ H st I Q q
  unfold mBox at q
  refine h W σ H st I _ (Res.imp (Res.bind q) fun b st1 W1 H1 hm1 I1 x1 q1 p np z1 z2 k => ?_)
  rw [hm1] at q
  obtain ⟨I2, x2, hr⟩ := newB_ok I1 x1 np z1 z2 k
  exact q _ _ I2 x2 _ (Rep.ob hr)
/-! ### a new list is changed, and dropped -/
theorem Inv.mut0 {st : St} {p : Addr} {o o' : HO} (I : Inv K cl W σ H st) (h : H p = some o) (z1 : W.F p = none) (z2 : W.ow p = none) : Inv K cl W σ (upd H p o') st := by
  have hne : ∀ q t, W.ow q = some t → upd H p o' q = H q := fun q t e => by
    have c : q ≠ p := fun c => by subst c; rw [z2] at e; cases e
    exact upd_ne c
  refine ⟨I.xeq, I.nt, sub_upd I.sub z1, out_upd I, I.inj, I.len, fun j sv ej => (I.slots j sv ej).kp (Same.refl _) (List.prefix_refl _) (fun _ _ h _ => h) fun q h => ⟨hne q _ h, h⟩, fun k b e => ?_, I.rlen, fun j o e => (I.obs j o e).kp (Same.refl _) (List.prefix_refl _) fun q t h _ => ⟨hne q t h, h⟩⟩
  obtain ⟨q, h, k2⟩ := I.ios k b e
  exact ⟨q, h, k2.kp (Same.refl _) (List.prefix_refl _) (hne q _ h)⟩
def mMutN (f : List D → List D → Option (List D × D)) (mn : M BX) (mt : M (List EV)) : M EV := fun st => (mn st).bind fun b st1 => match b with
  | .lst xs => (mt st1).bind fun evs st2 => match dats evs with
    | some ys => match f xs ys with
      | some (_, d) => .ok (.dat d) st2
      | none => .stuck
    | none => .stuck
  | _ => .stuck
theorem sE_mutN {r : V → List V → Hp → VK → Prop} {f : List D → List D → Option (List D × D)} {mn : M BX} {t : TA} {mt : M (List EV)} (hr : PkMut K r f) (ha : SimN K cl E ta mn) (ht : SimA K cl E t mt) : SimE K cl E (tBM K "list" r ta t) (mMutN f mn mt) := by
  intro W σ H st I Q q
  unfold mMutN at q
  refine ha W σ H st I _ (Res.imp (Res.bind q) fun b st1 W1 H1 hm1 I1 x1 q1 p np z1 z2 k => ?_)
  rw [hm1] at q
  cases b with
  | dct _ => exact q1.elim
  | fz _ => exact q1.elim
  | lst xs =>
    obtain ⟨vs, h0, r0⟩ := k
    refine ⟨.inl ⟨rfl, vs, SqL.of h0⟩, ht W1 σ H1 st1 I1 _ (Res.imp (Res.bind q1) fun evs st2 W2 H2 hm2 I2 x2 q2 us ks _ => ?_)⟩
    have q : Res K cl E W σ H ((mt st1).bind fun evs st2 => match dats evs with
      | some ys => match f xs ys with
        | some (_, d) => .ok (.dat d) st2
        | none => .stuck
      | none => .stuck) (fun ev _ W' H' => ∀ v, EvOk K W' H' σ v ev → Q v H') := q
    rw [hm2] at q
    replace q : Res K cl E W σ H (match dats evs with
      | some ys => match f xs ys with
        | some (_, d) => .ok (.dat d) st2
        | none => .stuck
      | none => .stuck) (fun ev _ W' H' => ∀ v, EvOk K W' H' σ v ev → Q v H') := q
    split at q
    · rename_i ys ey
      split at q
      · rename_i zs d ez
        have h2 : H2 p = some (.lst vs) := x2.un p _ h0 (.inl z2)
        obtain ⟨ws, v, rw1, rv, kk⟩ := hr W2 H2 p vs xs us ys _ d I2.sub h2 (r0.ext x2) (dats_ok ks ey) ez
        have w1 := x2.nw p _ h0 z2
        have w2 := x2.fz p _ h0 z2 z1
        have x12 := x1.trans x2
        refine kk Q (q W2 _ (I2.mut0 h2 w2 w1) ⟨x12.sF, x12.rr, x12.ow, fun a o h z => ?_, x12.xt, x12.nw, fun a h => ?_, x12.fz, x12.xa⟩ v rv)
        · have c : a ≠ p := fun c => by subst c; rw [np] at h; cases h
          rw [upd_ne c]; exact x12.un a o h z
        · by_cases c : a = p
          · subst c; rw [upd_same] at h; cases h
          · rw [upd_ne c] at h; exact x12.lv a h
      · exact q.elim
    · exact q.elim
end
/-! ### a list, some times over -/
section
open PySem.SeqAt
open AutoSeq1 (wpAny_loadPart')
theorem rmulW (a : Int) (t : Tok) (l : Addr) (items : Array Value) (n : Nat) (dd : Option Addr) (sl : Array (Option Value)) :
    Meets (Builtin.«int.__rmul__» ⟨[.int a t, .ref l], []⟩) (fun _ R s => s.heap.get? l = some { cls := .type "list", dict := dd, data := .seq items n, slots := sl } ∧ R (.ok (.ret Value.notImplemented)) s) :=
  .of_wp fun prog w A R s h => by obtain ⟨hp, g, d, tk, os⟩ := s; obtain ⟨hl, h⟩ := h; wp_walk using wpAny_loadPart' hl; exact ⟨_, rfl, h⟩
theorem mulW (l : Addr) (items : Array Value) (n : Nat) (x : Int) (u : Tok) (dd : Option Addr) (sl : Array (Option Value)) (hc0 : ¬(!Builtin.List.listFitsIndex x) = true) (hc1 : ¬items.size * x.toNat > (2 ^ 63 - 1) / 8) (hc2 : ¬Builtin.List.listTooLong (items.size * x.toNat) = true) :
    Meets (Builtin.«list.__mul__» ⟨[.ref l, .int x u], []⟩) (fun _ R s => s.heap.get? l = some { cls := .type "list", dict := dd, data := .seq items n, slots := sl } ∧ R (.ok (.ret (Value.ref s.heap.objs.size))) { s with heap := s.heap.push { cls := Value.type "list", data := Data.seq (List.foldl (fun x1 x2 => x1 ++ x2) #[] (List.replicate (if items.isEmpty = true then 0 else x.toNat) items)) }, toks := s.toks }) :=
  .of_wp fun prog w A R s h => by
    obtain ⟨hp, g, d, tk, os⟩ := s; obtain ⟨hl, h⟩ := h
    have hsz := AutoListH.joined_fits hc2
    wp_walk using wpAny_loadPart' hl; refine wpAny_ite_false (decide_eq_false (Nat.not_lt.mpr hsz)) ?_; wp_walk using wpAny_loadPart' hl; exact ⟨_, rfl, h⟩
variable {X : Cx}
def rRepS (K : Frag) : R2 := fun x y H Q => ∃ l k xs, x = .ref l ∧ y = .int k ∧ SqL K H l xs ∧ -(2 ^ 63) ≤ k ∧ k < 2 ^ 63 ∧ xs.length * k.toNat ≤ sizeLine ∧ ∀ p, H p = none → Q (.ref p) (upd H p (.lst (List.replicate k.toNat xs).flatten))
theorem op_repS : OpR X (binaryOp .Mult) (rRepS X.K) := by
  intro pins s σ H x y v u Q I rx ry h
  obtain ⟨l, k, xs, rfl, rfl, hl, h1, h2, hz, q⟩ := h
  cases rx
  obtain ⟨t, rfl⟩ := ry
  obtain ⟨its, r, p1, z1⟩ := I.list hl
  obtain ⟨⟨c1, d1, t1, w1⟩, n1, g1, k1, m1, j1⟩ := p1
  dsimp only at k1 m1 j1
  subst k1 m1 j1
  have hl := r.length
  have hlen : its.toArray.size * k.toNat ≤ sizeLine := by rw [List.size_toArray, ← hl]; exact hz
  have hcap : ¬ its.toArray.size * k.toNat > (2 ^ 63 - 1) / 8 := by
    have : (sizeLine : Nat) ≤ (2 ^ 63 - 1) / 8 := by decide
    omega
  have hfit : ¬ (!Builtin.List.listFitsIndex k) = true := by
    rw [fitsIndex_both h1 h2]
    exact Bool.false_ne_true
  have hlong : ¬ Builtin.List.listTooLong (its.toArray.size * k.toNat) = true := by
    rw [notLongL hlen]
    exact Bool.false_ne_true
  have hnew : List.foldl (fun x1 x2 => x1 ++ x2) #[] (List.replicate (if its.toArray.isEmpty = true then 0 else k.toNat) its.toArray) = (List.replicate k.toNat its).flatten.toArray := by
    have f0 : ∀ m : Nat, List.foldl (fun x1 x2 => x1 ++ x2) #[] (List.replicate m its.toArray) = (List.replicate m its).flatten.toArray := fun m => by
      have := foldl_rep its m []
      rw [List.nil_append] at this
      exact this
    rw [f0]
    cases its with
    | nil => simp
    | cons a r' => rw [if_neg (by simp)]
  refine wpAny_binaryOp_repeat_ref (T := "list") (U := "int") (by decide) ⟨_, g1, rfl⟩ (fun s' => typeIs_int s' k t) noFill_list_mul F.fills_int_mul F.slot_int_rmul repeat_list F.slot_int_index.lookup
    (call_meets F.slot_int_rmul (typeIs_int s k t) F.entry_int_rmul (F.args_int_rmul_2 _ _) (rmulW k t l its.toArray n1 none w1)
      ⟨g1, rfl, ⟨_, g1, rfl⟩, call_meets F.slot_list_mul ⟨_, g1, rfl⟩ F.entry_list_mul (F.args_list_mul_2 _ _) (mulW l its.toArray n1 k t none w1 hfit hcap hlong) ⟨g1, ?_⟩⟩)
  rw [hnew]
  exact ⟨.ref _, _, I.lnew (t' := s.toks) (r.rep k.toNat) (by rw [PyProof.Rows.lm_len_rep_flat, Nat.mul_comm]; exact hz), rfl, q _ I.fresh⟩
def fRepL : D → D → Option (List D)
  | .lst xs, .int k => if -(2 ^ 63) ≤ k ∧ k < 2 ^ 63 ∧ xs.length * k.toNat ≤ sizeLine then some (List.replicate k.toNat xs).flatten else none
  | _, _ => none
theorem RepL.flat {K : Frag} {F : Hp} {ρ : List Addr} {vs : List V} {ds : List D} (r : RepL K F ρ vs ds) : ∀ n : Nat, RepL K F ρ (List.replicate n vs).flatten (List.replicate n ds).flatten
  | 0 => .nil
  | n + 1 => by
    rw [List.replicate_succ, List.replicate_succ, List.flatten_cons, List.flatten_cons]
    exact r.append (RepL.flat r n)
theorem pk_repL {K : Frag} : PkN2 K (rRepS K) fRepL := by
  intro W H vx vy x y d s kx ky e
  unfold fRepL at e
  split at e
  · split at e
    · rename_i c
      cases e
      obtain ⟨a, vs, rfl, q, r⟩ := kx
      cases ky
      exact ⟨_, r.flat _, fun Q h => ⟨a, _, vs, rfl, rfl, q, c.1, c.2.1, by rw [r.len]; exact c.2.2, h⟩⟩
    · cases e
  · cases e
end
end Mi

set_option Elab.async false
set_option linter.all false
set_option maxRecDepth 100000
set_option maxHeartbeats 4000000
namespace Mi
open PySem PySem.Spec PyProof.Rows L2
/-! ### objects, read by hand -/
theorem ex_pr {α β : Type} {a : α} {b : β} {P : α → β → Prop} : (∃ x y, some (a, b) = some (x, y) ∧ P x y) = P a b := propext ⟨fun ⟨_, _, e, h⟩ => by cases e; exact h, fun h => ⟨_, _, rfl, h⟩⟩
theorem ex_pn {α β : Type} {P : α → β → Prop} : (∃ x y, (none : Option (α × β)) = some (x, y) ∧ P x y) = False := propext ⟨fun ⟨_, _, e, _⟩ => (by cases e), fun h => h.elim⟩
section
variable {k : EV → St → Prop} {kx : BX → St → Prop} {kf : Fl → St → Prop} {e : Kv.Er → St → Prop} {st : St} {ma mv : M EV} {ml mt : M (List EV)} {mn : M BX} {c f nm : Str} {n : Nat} {m : Fn}
theorem rp_fld : Rp (mFld c f ma st) k e = Rp (ma st) (fun a st1 => ∃ j fs, obFs st1 c a = some (j, fs) ∧ ∃ d, fs.lookup f = some (.dat d) ∧ k (.dat d) st1) e := by
  unfold mFld
  rw [rp_bind]
  congr 1
  funext a st1
  cases h : obFs st1 c a with
  | none => rw [ex_pn]; rfl
  | some x =>
    obtain ⟨j, fs⟩ := x
    rw [ex_pr]
    dsimp only
    cases h2 : fs.lookup f with
    | none => simp [Rp]
    | some v => cases v <;> simp [Rp]
theorem rp_setO {a : EV} {d : D} : Rp (setO c f a d st) kf e = ∃ j fs, obFs st c a = some (j, fs) ∧ fs.length < 1000 ∧ kf .nx { st with S := st.S.set j (.ins c (putV f (.dat d) fs)) } := by
  unfold setO
  cases h : obFs st c a with
  | none => rw [ex_pn]; rfl
  | some x =>
    obtain ⟨j, fs⟩ := x
    rw [ex_pr]
    dsimp only
    by_cases h2 : fs.length < 1000
    · rw [if_pos h2]; simp [Rp, h2]
    · rw [if_neg h2]; simp [Rp, h2]
theorem rp_fldS : Rp (mFldS c f ma mv st) kf e = Rp (mv st) (fun ev st1 => Rp (toD ev st1) (fun d st2 => Rp (ma st2) (fun a st3 => ∃ j fs, obFs st3 c a = some (j, fs) ∧ fs.length < 1000 ∧ kf .nx { st3 with S := st3.S.set j (.ins c (putV f (.dat d) fs)) }) e) e) e := by
  unfold mFldS
  simp only [rp_bind, rp_setO]
theorem rp_augO {g : D → D → Option D} {a b : EV} {x : D} : Rp ((match b with
          | .dat y => match g x y with
            | some z => setO c f a z st
            | none => .stuck
          | _ => .stuck : R Fl)) kf e = ∃ y, b = .dat y ∧ ∃ z, g x y = some z ∧ ∃ j' fs', obFs st c a = some (j', fs') ∧ fs'.length < 1000 ∧ kf .nx { st with S := st.S.set j' (.ins c (putV f (.dat z) fs')) } := by
  cases b with
  | dat y =>
    simp only [EV.dat.injEq, exists_eq_left']
    cases hg : g x y with
    | none => simp [Rp]
    | some z => simp only [Option.some.injEq, exists_eq_left']; exact rp_setO
  | _ => simp [Rp]
theorem rp_fldA {g : D → D → Option D} : Rp (mFldA c f g ma mv st) kf e = Rp (ma st) (fun a st1 => ∃ j fs, obFs st1 c a = some (j, fs) ∧ ∃ x, fs.lookup f = some (.dat x) ∧ Rp (mv st1) (fun b st2 => ∃ y, b = .dat y ∧ ∃ z, g x y = some z ∧ ∃ j' fs', obFs st2 c a = some (j', fs') ∧ fs'.length < 1000 ∧ kf .nx { st2 with S := st2.S.set j' (.ins c (putV f (.dat z) fs')) }) e) e := by
  unfold mFldA
  rw [rp_bind]
  congr 1
  funext a st1
  cases h : obFs st1 c a with
  | none => rw [ex_pn]; rfl
  | some x =>
    obtain ⟨j, fs⟩ := x
    rw [ex_pr]
    dsimp only
    cases h2 : fs.lookup f with
    | none => simp [Rp]
    | some v =>
      cases v with
      | bx b => simp [Rp]
      | dat x =>
        simp only [Option.some.injEq, FV.dat.injEq, exists_eq_left', rp_bind]
        congr 1
        funext b st2
        exact rp_augO
theorem rp_box : Rp (mBox mn st) k e = Rp (mn st) (fun b st1 => k (.dat (.ob st1.S.length)) { st1 with S := st1.S ++ [.bx b] }) e := by
  unfold mBox
  rw [rp_bind]
  rfl
theorem rp_meth : Rp (mMeth c nm n m ma mt st) k e = Rp (ma st) (fun a st1 => obM st1 c nm a = true ∧ Rp (mt st1) (fun evs st2 => Rp (callR n m (a :: evs) st2) (fun x st3 => Rp (frzR x st3) k e) e) e) e := by
  unfold mMeth mMeth0
  rw [rp_bind, rp_bind]
  congr 1
  funext a st1
  by_cases h : obM st1 c nm a = true
  · simp only [h, if_true, true_and, rp_bind]
  · simp [h, Rp]
theorem rp_methN : Rp (mMethN c nm n m ma mt st) kx e = Rp (ma st) (fun a st1 => obM st1 c nm a = true ∧ Rp (mt st1) (fun evs st2 => Rp (callR n m (a :: evs) st2) (fun x st3 => Rp (newR x st3) kx e) e) e) e := by
  unfold mMethN mMeth0
  rw [rp_bind, rp_bind]
  congr 1
  funext a st1
  by_cases h : obM st1 c nm a = true
  · simp only [h, if_true, true_and, rp_bind]
  · simp [h, Rp]
theorem rp_make : Rp (mMake c n m mt st) k e = Rp (mt st) (fun evs st1 => Rp (callR n m (.dat (.ob st1.S.length) :: evs) { st1 with S := st1.S ++ [.ins c []] }) (fun x st2 => x = .inl (.dat .non) ∧ k (.dat (.ob st1.S.length)) st2) e) e := by
  unfold mMake
  rw [rp_bind]
  congr 1
  funext evs st1
  rw [rp_bind]
  congr 1
  funext x st2
  cases x with
  | inr b => simp [madeR, Rp]
  | inl ev =>
    cases ev with
    | dat d => cases d <;> simp [madeR, Rp]
    | _ => simp [madeR, Rp]
theorem rp_mutN {g : List D → List D → Option (List D × D)} : Rp (mMutN g mn mt st) k e = Rp (mn st) (fun b st1 => ∃ xs, b = .lst xs ∧ Rp (mt st1) (fun evs st2 => ∃ ys, dats evs = some ys ∧ ∃ z d, g xs ys = some (z, d) ∧ k (.dat d) st2) e) e := by
  unfold mMutN
  rw [rp_bind]
  congr 1
  funext b st1
  cases b with
  | dct _ => simp [Rp]
  | fz _ => simp [Rp]
  | lst xs =>
    simp only [BX.lst.injEq, exists_eq_left', rp_bind]
    congr 1
    funext evs st2
    cases h : dats evs with
    | none => simp [Rp]
    | some ys =>
      simp only [Option.some.injEq, exists_eq_left']
      cases h2 : g xs ys with
      | none => simp [Rp]
      | some x => obtain ⟨z, d⟩ := x; exact (ex_pr (P := fun _ d => k (.dat d) st2)).symm
end
/-- fields of an object, by what the objects are -/
def obS (S : List Ob) (c : Str) (ev : EV) : Option (Nat × List (Str × FV)) := match ev with
  | .dat (.ob j) => match S[j]? with
    | some (.ins c' fs) => if c' = c then some (j, fs) else none
    | _ => none
  | _ => none
theorem obFs_S {st : St} {c : Str} {ev : EV} : obFs st c ev = obS st.S c ev := rfl
theorem obS_of {S : List Ob} {c : Str} {j : Nat} {fs : List (Str × FV)} (h : S[j]? = some (.ins c fs)) : obS S c (.dat (.ob j)) = some (j, fs) := by
  unfold obS
  dsimp only
  rw [h]
  dsimp only
  rw [if_pos rfl]
theorem obF_of {st : St} {c : Str} {j : Nat} {fs : List (Str × FV)} (h : st.S[j]? = some (.ins c fs)) : obFs st c (.dat (.ob j)) = some (j, fs) := obS_of h
theorem obM_of {st : St} {c m : Str} {j : Nat} {fs : List (Str × FV)} (h : st.S[j]? = some (.ins c fs)) (hm : fs.lookup m = none) : obM st c m (.dat (.ob j)) = true := by
  unfold obM
  rw [obFs_S, obS_of h]
  dsimp only
  rw [hm]
  rfl
theorem peek_ob {st : St} {j : Nat} {ds : List D} (h : st.S[j]? = some (.bx (.lst ds))) : peek st (.dat (.ob j)) = some (.lst ds) := by
  unfold peek
  dsimp only
  rw [h]
theorem add_ii {x y : Int} : fAdd (.int x) (.int y) = some (.int (x + y)) := by
  simp [iOp]
theorem sub_ii {x y : Int} : fSub (.int x) (.int y) = some (.int (x - y)) := by
  simp [iOp]
theorem gt_ii {x y : Int} : fGt (.int x) (.int y) = some (.bl (decide (y < x))) := by
  simp [iOp]
/-- a call, as a value -/
theorem call_val {n : Nat} {m : Fn} {ml : M (List EV)} {evs : List EV} {st st1 : St} {as : List AV} {hs : List EV} {bs io : List BX} {S : List Ob} {d : D} (h1 : ml st = .ok evs st1) (hm : m as bs st1.S = .ok (.dat d) io S) (hsp : splitA st1 0 evs = some (as, hs, bs)) (hn : as.length = n) (hnd : (tagsOf hs).Nodup) (hl : io.length = hs.length) : mCall n m ml st = .ok (.dat d) (mPut hs st1 io S) := by
  unfold mCall mCall0
  rw [h1]
  show (callR n m evs st1).bind frzR = _
  unfold callR
  rw [hsp]
  dsimp only
  rw [if_pos ⟨hnd, hn⟩, hm]
  dsimp only
  rw [if_pos hl]
  rfl
section
variable {vs : List Nat} {chk : St → Prop} {mg : EV → M Unit} {mt : M Bool} {me : M EV} {acc : List D} {kl : List D → St → Prop} {e : Kv.Er → St → Prop} {st : St}
theorem rp_lcN [∀ st, Decidable (chk st)] (h : chk (st.wiped vs)) (hk : kl acc st) : Rp (lcL vs chk mg mt me [] acc st) kl e := by
  unfold lcL
  rw [if_pos h]
  exact hk
theorem rp_lcC [∀ st, Decidable (chk st)] {d : D} {r : List D} (h : chk (st.wiped vs)) (hk : Rp (mg (.dat d) (st.wiped vs)) (fun _ st1 => Rp (mt st1) (fun b st2 => if b = true then Rp (me st2) (fun ev st3 => Rp (toD ev st3) (fun x st4 => acc.length < sizeLine ∧ Rp (lcL vs chk mg mt me r (acc ++ [x]) st4) kl e) e) e else Rp (lcL vs chk mg mt me r acc st2) kl e) e) e) : Rp (lcL vs chk mg mt me (d :: r) acc st) kl e := by
  unfold lcL
  rw [if_pos h]
  simp only [rp_bind]
  refine rp_imp hk (fun _ st1 h1 => rp_imp h1 (fun b st2 h2 => ?_) fun _ _ z => z) fun _ _ z => z
  by_cases c : b = true
  · rw [if_pos c] at h2 ⊢
    simp only [rp_bind]
    refine rp_imp h2 (fun ev st3 h3 => rp_imp h3 (fun x st4 h4 => ?_) fun _ _ z => z) fun _ _ z => z
    rw [if_pos h4.1]
    exact h4.2
  · rw [if_neg c] at h2 ⊢
    exact h2
/-- over what is left, with a filter -/
theorem rp_lcFl {ins : ∀ st, Decidable (chk st)} (I : List D → List D → St → Prop) (hc : ∀ r acc st, I r acc st → chk (st.wiped vs)) (hs : ∀ d r acc st, I (d :: r) acc st → Rp (mg (.dat d) (st.wiped vs)) (fun _ st1 => Rp (mt st1) (fun b st2 => if b = true then Rp (me st2) (fun ev st3 => Rp (toD ev st3) (fun x st4 => acc.length < sizeLine ∧ I r (acc ++ [x]) st4) (fun _ _ => False)) (fun _ _ => False) else I r acc st2) (fun _ _ => False)) (fun _ _ => False)) (hd : ∀ acc st, I [] acc st → kl acc st) : ∀ (ds acc : List D) (st : St), I ds acc st → Rp (lcL vs chk mg mt me ds acc st) kl (fun _ _ => False)
  | [], acc, st, h => rp_lcN (hc _ _ _ h) (hd _ _ h)
  | d :: r, acc, st, h => by
    refine rp_lcC (hc _ _ _ h) ?_
    refine rp_imp (hs d r acc st h) (fun _ st1 h1 => rp_imp h1 (fun b st2 h2 => ?_) fun _ _ z => z) fun _ _ z => z
    by_cases c : b = true
    · rw [if_pos c] at h2 ⊢
      exact rp_imp h2 (fun ev st3 h3 => rp_imp h3 (fun x st4 h4 => ⟨h4.1, rp_lcFl I hc hs hd r _ st4 h4.2⟩) fun _ _ z => z) fun _ _ z => z
    · rw [if_neg c] at h2 ⊢
      exact rp_lcFl I hc hs hd r acc st2 h2
open Classical in
theorem rp_lcC0 {d : D} {r : List D} (h : chk (st.wiped vs)) (hk : Rp (mg (.dat d) (st.wiped vs)) (fun _ st1 => Rp (mt st1) (fun b st2 => if b = true then Rp (me st2) (fun ev st3 => Rp (toD ev st3) (fun x st4 => acc.length < sizeLine ∧ Rp (lcL vs chk mg mt me r (acc ++ [x]) st4) kl e) e) e else Rp (lcL vs chk mg mt me r acc st2) kl e) e) e) : Rp (lcL vs chk mg mt me (d :: r) acc st) kl e := rp_lcC h hk
open Classical in
theorem rp_lcF {mi : M Itr} {st0 : St} {kx : BX → St → Prop} {it : Itr} (hi : mi st = .ok it st0) (h : Rp (lcL vs it.chk mg mt me it.ds [] st0) (fun ds st2 => kx (.lst ds) { st2 with env := restE st0.env st2.env vs }) (fun _ _ => False)) : Rp (mLc vs mi mg mt me st) kx e := by
  unfold mLc
  rw [hi]
  dsimp only [R.bind]
  generalize lcL vs it.chk mg mt me it.ds [] st0 = r at h ⊢
  cases r with
  | ok ds st2 => exact h
  | err _ _ => exact h.elim
  | stuck => exact h.elim
/-- over a text, with a filter -/
theorem rp_lc_strF {ma : M EV} (l : List Nat) (I : List Nat → List D → St → Prop) {st0 : St} {kx : BX → St → Prop} (ha : ma st = .ok (.dat (.str (SX.S l))) st0) (h0 : I l [] st0)
    (hs : ∀ c r acc st, I (c :: r) acc st → Rp (mg (.dat (.str (SX.S [c]))) (st.wiped vs)) (fun _ st1 => Rp (mt st1) (fun b st2 => if b = true then Rp (me st2) (fun ev st3 => Rp (toD ev st3) (fun x st4 => acc.length < sizeLine ∧ I r (acc ++ [x]) st4) (fun _ _ => False)) (fun _ _ => False) else I r acc st2) (fun _ _ => False)) (fun _ _ => False))
    (hd : ∀ acc st1, I [] acc st1 → kx (.lst acc) { st1 with env := restE st0.env st1.env vs }) : Rp (mLc vs (mIStr ma) mg mt me st) kx e := by
  refine rp_lcF (it := ⟨l.map fun c => .str (SX.S [c]), fun _ => True⟩) (st0 := st0) ?_ ?_
  · unfold mIStr
    rw [ha]
    simp [R.bind, SX.S]
  · refine rp_lcFl (fun r acc st => ∃ q : List Nat, r = q.map (fun c => D.str (SX.S [c])) ∧ I q acc st) (fun _ _ _ _ => trivial) (fun d r acc st h => ?_) (fun acc st h => ?_) _ [] st0 ⟨l, rfl, h0⟩
    · obtain ⟨q, e, h⟩ := h
      cases q with
      | nil => cases e
      | cons c q =>
        cases e
        refine rp_imp (hs c q acc st h) (fun _ st1 h1 => rp_imp h1 (fun b st2 h2 => ?_) fun _ _ z => z) fun _ _ z => z
        by_cases c : b = true
        · rw [if_pos c] at h2 ⊢
          exact rp_imp h2 (fun ev st3 h3 => rp_imp h3 (fun x st4 h4 => ⟨h4.1, _, rfl, h4.2⟩) fun _ _ z => z) fun _ _ z => z
        · rw [if_neg c] at h2 ⊢
          exact ⟨_, rfl, h2⟩
    · obtain ⟨q, e, h⟩ := h
      cases q with
      | nil => exact hd acc st h
      | cons c q => cases e
end
/-! ### runs -/
def EndQ (d : D) (io : List BX) (S : List Ob) : Fl → St → Prop
  | .nx, st => st.io = io ∧ st.S = S ∧ .non = d
  | .ret (.dat x), st => st.io = io ∧ st.S = S ∧ x = d
  | _, _ => False
theorem eq_run {n : Nat} {ms : M Fl} {as : List AV} {io io' : List BX} {S S' : List Ob} {d : D}
    (h : Rp (ms ⟨as.map (fun a => some a.sv) ++ List.replicate (n - as.length) none, io, S⟩) (EndQ d io' S') (fun _ _ => False)) : runF n ms as io S = .ok (.dat d) io' S' := by
  unfold runF
  cases e : ms ⟨as.map (fun a => some a.sv) ++ List.replicate (n - as.length) none, io, S⟩ with
  | stuck => rw [e] at h; exact h.elim
  | err x st => rw [e] at h; exact h.elim
  | ok f st =>
    rw [e] at h
    cases f with
    | nx => obtain ⟨rfl, rfl, rfl⟩ := h; rfl
    | brk => exact h.elim
    | cont => exact h.elim
    | ret ev =>
      cases ev with
      | dat d => obtain ⟨rfl, rfl, rfl⟩ := h; rfl
      | _ => exact h.elim
theorem eq_runN {n : Nat} {ms : M Fl} {as : List AV} {io io' : List BX} {S S' : List Ob} {d : D}
    (h : Rp (ms ⟨as.map (fun a => some a.sv) ++ List.replicate (n - as.length) none, io, S⟩) (EndQ d io' S') (fun _ _ => False)) : noErrF (runF n ms) as io S = .ok (.dat d) io' S' := by
  unfold noErrF
  rw [eq_run h]
theorem eq_runE {n : Nat} {ms : M Fl} {as : List AV} {io io' : List BX} {S S' : List Ob} {er : Kv.Er}
    (h : Rp (ms ⟨as.map (fun a => some a.sv) ++ List.replicate (n - as.length) none, io, S⟩) (fun _ _ => False) (fun x st => st.io = io' ∧ st.S = S' ∧ x = er)) : runF n ms as io S = .err er io' S' := by
  unfold runF
  cases e : ms ⟨as.map (fun a => some a.sv) ++ List.replicate (n - as.length) none, io, S⟩ with
  | stuck => rw [e] at h; exact h.elim
  | err x st => rw [e] at h; obtain ⟨rfl, rfl, rfl⟩ := h; rfl
  | ok f st => rw [e] at h; exact h.elim
/-- any end with plain data -/
def EndA (P : D → List BX → List Ob → Prop) : Fl → St → Prop
  | .nx, st => P .non st.io st.S
  | .ret (.dat x), st => P x st.io st.S
  | _, _ => False
theorem all_run {n : Nat} {ms : M Fl} {as : List AV} {io : List BX} {S : List Ob} {P : D → List BX → List Ob → Prop}
    (h : Rp (ms ⟨as.map (fun a => some a.sv) ++ List.replicate (n - as.length) none, io, S⟩) (EndA P) (fun _ _ => False)) : ∃ d io' S', noErrF (runF n ms) as io S = .ok (.dat d) io' S' ∧ P d io' S' := by
  unfold noErrF runF
  cases e : ms ⟨as.map (fun a => some a.sv) ++ List.replicate (n - as.length) none, io, S⟩ with
  | stuck => rw [e] at h; exact h.elim
  | err x st => rw [e] at h; exact h.elim
  | ok f st =>
    rw [e] at h
    cases f with
    | nx => exact ⟨_, _, _, rfl, h⟩
    | brk => exact h.elim
    | cont => exact h.elim
    | ret ev =>
      cases ev with
      | dat d => exact ⟨_, _, _, rfl, h⟩
      | _ => exact h.elim
end Mi

set_option Elab.async false
set_option linter.all false
set_option maxRecDepth 100000
set_option maxHeartbeats 4000000
namespace Mi
open PySem PySem.Spec PyProof.Rows L2
section
variable {K : Frag} {cl : (Str → Addr) × Addr × Bool} {E : Kv.Er → L2.St → Hp → Prop} {W : Wd} {σ : L2.St} {H : Hp} {ta tb tc : TE} {ma mb mc : M EV}
/-! ### dicts: keys and what stands at them -/
def kD : D → Option Key
  | .int i => some (.inl i)
  | .str s => some (.inr s)
  | _ => none
def dK : Key → D
  | .inl i => .int i
  | .inr s => .str s
theorem kD_rep {F : Hp} {ρ : List Addr} {d : D} {v : V} {k : Key} (h : kD d = some k) (r : Rep K F ρ v d) : v = kV k := by
  cases d <;> cases h <;> cases r <;> rfl
theorem dK_rep {F : Hp} {ρ : List Addr} (k : Key) : Rep K F ρ (kV k) (dK k) := by
  cases k <;> constructor
/-- at a key; in its place, or at the end; without it -/
def dVal (kvs : List (Key × D)) (k : Key) : Option D := (kvs.find? fun kv => decide (kv.1 = k)).map (·.2)
def dPut (kvs : List (Key × D)) (k : Key) (d : D) : List (Key × D) :=
  if (kvs.any fun kv => decide (kv.1 = k)) = true then kvs.map (fun kv => if kv.1 = k then (kv.1, d) else kv) else kvs ++ [(k, d)]
def dDrop (kvs : List (Key × D)) (k : Key) : List (Key × D) := kvs.filter fun kv => decide (kv.1 ≠ k)
inductive KvR (K : Frag) (F : Hp) (ρ : List Addr) : List (Key × V) → List (Key × D) → Prop
  | nil : KvR K F ρ [] []
  | cons {k : Key} {v : V} {d : D} {kv : List (Key × V)} {kvs : List (Key × D)} : Rep K F ρ v d → KvR K F ρ kv kvs → KvR K F ρ ((k, v) :: kv) ((k, d) :: kvs)
theorem KvR.of {F : Hp} {ρ : List Addr} : ∀ {kv : List (Key × V)} {kvs : List (Key × D)}, kv.map (·.1) = kvs.map (·.1) → RepL K F ρ (kv.map (·.2)) (kvs.map (·.2)) → KvR K F ρ kv kvs
  | [], [], _, _ => .nil
  | [], _ :: _, e, _ => by cases e
  | _ :: _, [], e, _ => by cases e
  | (k, v) :: kv, (k', d) :: kvs, e, r => by
    rw [List.map_cons, List.map_cons] at e r
    injection e with e1 e2
    have e1 : k = k' := e1
    subst e1
    cases r with
    | cons h t => exact .cons h (KvR.of e2 t)
theorem KvR.keys {F : Hp} {ρ : List Addr} : ∀ {kv : List (Key × V)} {kvs : List (Key × D)}, KvR K F ρ kv kvs → kv.map (·.1) = kvs.map (·.1)
  | _, _, .nil => rfl
  | _, _, .cons _ t => by rw [List.map_cons, List.map_cons, t.keys]
theorem KvR.vals {F : Hp} {ρ : List Addr} : ∀ {kv : List (Key × V)} {kvs : List (Key × D)}, KvR K F ρ kv kvs → RepL K F ρ (kv.map (·.2)) (kvs.map (·.2))
  | _, _, .nil => .nil
  | _, _, .cons h t => .cons h t.vals
theorem KvR.len {F : Hp} {ρ : List Addr} : ∀ {kv : List (Key × V)} {kvs : List (Key × D)}, KvR K F ρ kv kvs → kv.length = kvs.length
  | _, _, .nil => rfl
  | _, _, .cons _ t => by rw [List.length_cons, List.length_cons, t.len]
theorem KvR.mono {F F' : Hp} {ρ ρ' : List Addr} (s : Same F F') (p : ρ <+: ρ') : ∀ {kv : List (Key × V)} {kvs : List (Key × D)}, KvR K F ρ kv kvs → KvR K F' ρ' kv kvs
  | _, _, .nil => .nil
  | _, _, .cons h t => .cons (h.mono s p) (t.mono s p)
theorem KvR.get {F : Hp} {ρ : List Addr} : ∀ {kv : List (Key × V)} {kvs : List (Key × D)} {i : Nat} {k : Key} {v : V}, KvR K F ρ kv kvs → kv[i]? = some (k, v) → ∃ d, kvs[i]? = some (k, d) ∧ Rep K F ρ v d
  | _, _, i, _, _, .nil, e => by simp at e
  | _, _, 0, _, _, .cons h _, e => by cases e; exact ⟨_, rfl, h⟩
  | _, _, i + 1, _, _, .cons _ t, e => t.get (i := i) e
theorem KvR.any {F : Hp} {ρ : List Addr} (k : Key) : ∀ {kv : List (Key × V)} {kvs : List (Key × D)}, KvR K F ρ kv kvs → (kv.any fun x => decide (x.1 = k)) = (kvs.any fun x => decide (x.1 = k))
  | _, _, .nil => rfl
  | _, _, .cons _ t => by rw [List.any_cons, List.any_cons, t.any k]
inductive RepO (K : Frag) (F : Hp) (ρ : List Addr) : Option V → Option D → Prop
  | none : RepO K F ρ none none
  | some {v : V} {d : D} : Rep K F ρ v d → RepO K F ρ (some v) (some d)
theorem KvR.val {F : Hp} {ρ : List Addr} (k : Key) : ∀ {kv : List (Key × V)} {kvs : List (Key × D)}, KvR K F ρ kv kvs → RepO K F ρ (valV kv k) (dVal kvs k)
  | _, _, .nil => .none
  | _, _, .cons (k := k') h t => by
    unfold valV dVal
    rw [List.find?_cons, List.find?_cons]
    by_cases c : k' = k
    · simp only [c, decide_true]; exact .some h
    · simp only [c, decide_false]; exact t.val k
theorem KvR.app {F : Hp} {ρ : List Addr} {k : Key} {v : V} {d : D} (h : Rep K F ρ v d) : ∀ {kv : List (Key × V)} {kvs : List (Key × D)}, KvR K F ρ kv kvs → KvR K F ρ (kv ++ [(k, v)]) (kvs ++ [(k, d)])
  | _, _, .nil => .cons h .nil
  | _, _, .cons g t => .cons g (t.app h)
theorem KvR.repl {F : Hp} {ρ : List Addr} {k : Key} {v : V} {d : D} (h : Rep K F ρ v d) : ∀ {kv : List (Key × V)} {kvs : List (Key × D)}, KvR K F ρ kv kvs → KvR K F ρ (kv.map fun x => if x.1 = k then (x.1, v) else x) (kvs.map fun x => if x.1 = k then (x.1, d) else x)
  | _, _, .nil => .nil
  | _, _, .cons (k := k') g t => by
    rw [List.map_cons, List.map_cons]
    by_cases c : k' = k
    · simp only [c, if_true]; exact .cons h (t.repl h)
    · simp only [c, if_false]; exact .cons g (t.repl h)
theorem KvR.put {F : Hp} {ρ : List Addr} {kv : List (Key × V)} {kvs : List (Key × D)} {k : Key} {v : V} {d : D} (r : KvR K F ρ kv kvs) (h : Rep K F ρ v d) : KvR K F ρ (putK kv k v) (dPut kvs k d) := by
  unfold putK dPut
  rw [r.any k]
  by_cases c : (kvs.any fun x => decide (x.1 = k)) = true
  · rw [if_pos c, if_pos c]; exact r.repl h
  · rw [if_neg c, if_neg c]; exact r.app h
theorem KvR.drop {F : Hp} {ρ : List Addr} (k : Key) : ∀ {kv : List (Key × V)} {kvs : List (Key × D)}, KvR K F ρ kv kvs → KvR K F ρ (dropK kv k) (dDrop kvs k)
  | _, _, .nil => .nil
  | _, _, .cons (k := k') (kv := kv) (kvs := kvs) h t => by
    have ih := t.drop k
    unfold dropK dDrop at *
    rw [List.filter_cons, List.filter_cons]
    by_cases c : k' = k
    · simp only [c, ne_eq, not_true_eq_false, decide_false, Bool.false_eq_true, if_false]; simpa using ih
    · simp only [c, ne_eq, not_false_eq_true, decide_true, if_true]; exact .cons h (by simpa using ih)
theorem BxOk.dct {p : Addr} {kv : List (Key × V)} {kvs : List (Key × D)} (e : H p = some (.dK kv)) (r : KvR K W.F W.ρ kv kvs) : BxOk K W H p (.dct kvs) := ⟨kv, e, r.keys, r.vals⟩
/-! ### what is read of a dict -/
def rdct (st : St) (ev : EV) : Option (List (Key × D)) := match ownB st ev with
  | some (.dct kvs) => some kvs
  | some (.fz kvs) => some kvs
  | _ => none
theorem rdct_ok {st : St} {v : V} {ev : EV} {kvs : List (Key × D)} (I : Inv K cl W σ H st) (k : EvOk K W H σ v ev) (e : rdct st ev = some kvs) : ∃ p kv, v = .ref p ∧ Rd H p (.dK kv) ∧ KvR K W.F W.ρ kv kvs := by
  unfold rdct at e
  split at e
  · rename_i b eb
    cases e
    obtain ⟨p, t, rfl, _, _, ⟨kv, h, e1, e2⟩, _⟩ := own_mut I k eb
    exact ⟨p, kv, rfl, .inl h, KvR.of e1 e2⟩
  · rename_i b eb
    cases e
    obtain ⟨p, t, rfl, _, _, ⟨o, kv, h, e1, e2⟩, _⟩ := own_mut I k eb
    exact ⟨p, kv, rfl, .inr ⟨o, h⟩, KvR.of e1 e2⟩
  · cases e
def keyE : EV → Option Key
  | .dat d => kD d
  | _ => none
theorem keyE_ok {v : V} {ev : EV} {k : Key} (h : EvOk K W H σ v ev) (e : keyE ev = some k) : v = kV k := by
  cases ev with
  | dat d => exact kD_rep e h
  | _ => cases e
def mDGet (ma mb : M EV) : M EV := fun st => (ma st).bind fun a st1 => (mb st1).bind fun b st2 => match rdct st2 a, keyE b with
  | some kvs, some k => match dVal kvs k with
    | some d => .ok (.dat d) st2
    | none => .stuck
  | _, _ => .stuck
theorem sE_dget (ha : SimE K cl E ta ma) (hb : SimE K cl E tb mb) : SimE K cl E (tDGet ta tb) (mDGet ma mb) := by
  intro W σ H st I Q q
  refine ha W σ H st I _ (Res.imp (Res.bind q) fun a st1 W1 H1 _ I1 x1 q1 va ka => ?_)
  refine hb W1 σ H1 st1 I1 _ (Res.imp (Res.bind q1) fun b st2 W2 H2 _ I2 x2 q2 vb kb => ?_)
  split at q2
  · rename_i kvs k e1 e2
    split at q2
    · rename_i d e3
      obtain ⟨p, kv, rfl, hr, r⟩ := rdct_ok I2 (ka.ext x2) e1
      rw [keyE_ok kb e2]
      have ro := r.val k
      rw [e3] at ro
      generalize hv : valV kv k = ov at ro
      cases ro with
      | some rv => exact ⟨p, _, rfl, .inl ⟨kv, k, hr, rfl, hv.symm⟩, q2.now I2 _ rv⟩
    · exact q2.elim
  · exact q2.elim
def mDIn (neg : Bool) (mb ma : M EV) : M EV := fun st => (mb st).bind fun b st1 => (ma st1).bind fun a st2 => match rdct st2 a, keyE b with
  | some kvs, some k => .ok (.dat (.bl (if neg then !(dVal kvs k).isSome else (dVal kvs k).isSome))) st2
  | _, _ => .stuck
theorem RepO.isSome {F : Hp} {ρ : List Addr} {o : Option V} {d : Option D} (r : RepO K F ρ o d) : o.isSome = d.isSome := by cases r <;> rfl
theorem sE_din (hb : SimE K cl E tb mb) (ha : SimE K cl E ta ma) : SimE K cl E (tDIn tb ta) (mDIn false mb ma) := by
  intro W σ H st I Q q
  refine hb W σ H st I _ (Res.imp (Res.bind q) fun b st1 W1 H1 _ I1 x1 q1 vb kb => ?_)
  refine ha W1 σ H1 st1 I1 _ (Res.imp (Res.bind q1) fun a st2 W2 H2 _ I2 x2 q2 va ka => ?_)
  split at q2
  · rename_i kvs k e1 e2
    obtain ⟨p, kv, rfl, hr, r⟩ := rdct_ok I2 ka e1
    refine ⟨p, valV kv k, rfl, .inl ⟨kv, k, hr, keyE_ok (kb.ext x2) e2, rfl⟩, ?_⟩
    rw [(r.val k).isSome]
    exact q2.now I2 _ (.bl _)
  · exact q2.elim
theorem sE_dnin (hb : SimE K cl E tb mb) (ha : SimE K cl E ta ma) : SimE K cl E (tDNotIn tb ta) (mDIn true mb ma) := by
  intro W σ H st I Q q
  refine hb W σ H st I _ (Res.imp (Res.bind q) fun b st1 W1 H1 _ I1 x1 q1 vb kb => ?_)
  refine ha W1 σ H1 st1 I1 _ (Res.imp (Res.bind q1) fun a st2 W2 H2 _ I2 x2 q2 va ka => ?_)
  split at q2
  · rename_i kvs k e1 e2
    obtain ⟨p, kv, rfl, hr, r⟩ := rdct_ok I2 ka e1
    refine ⟨p, valV kv k, rfl, .inl ⟨kv, k, hr, keyE_ok (kb.ext x2) e2, rfl⟩, ?_⟩
    rw [(r.val k).isSome]
    exact q2.now I2 _ (.bl _)
  · exact q2.elim
/-- d.get(k) -/
def mDGet1 (ma mb : M EV) : M EV := fun st => (ma st).bind fun a st1 => match rdct st1 a with
  | some _ => (mb st1).bind fun b st2 => match rdct st2 a, keyE b with
    | some kvs, some k => .ok (.dat ((dVal kvs k).getD .non)) st2
    | _, _ => .stuck
  | none => .stuck
theorem sE_dget1 (ha : SimE K cl E ta ma) (hb : SimE K cl E tb mb) : SimE K cl E (tDGet1 ta tb) (mDGet1 ma mb) := by
  intro W σ H st I Q q
  refine ha W σ H st I _ (Res.imp (Res.bind q) fun a st1 W1 H1 _ I1 x1 q1 va ka => ?_)
  split at q1
  · rename_i kvs0 e0
    obtain ⟨p, kv0, rfl, hr0, r0⟩ := rdct_ok I1 ka e0
    refine ⟨p, rfl, .inl ⟨kv0, hr0⟩, hb W1 σ H1 st1 I1 _ (Res.imp (Res.bind q1) fun b st2 W2 H2 _ I2 x2 q2 vb kb => ?_)⟩
    split at q2
    · rename_i kvs k e1 e2
      obtain ⟨p', kv, ep, hr, r⟩ := rdct_ok I2 (ka.ext x2) e1
      cases ep
      refine ⟨valV kv k, .inl ⟨kv, k, hr, keyE_ok kb e2, rfl⟩, q2.now I2 _ ?_⟩
      have ro := r.val k
      generalize valV kv k = ov at ro
      generalize dVal kvs k = od at ro
      cases ro with
      | none => exact .non
      | some h => exact h
    · exact q2.elim
  · exact q1.elim
/-- d.get(k, x) -/
def mDGet2 (ma mb mc : M EV) : M EV := fun st => (ma st).bind fun a st1 => match rdct st1 a with
  | some _ => (mb st1).bind fun b st2 => (mc st2).bind fun c st3 => match rdct st3 a, keyE b, c with
    | some kvs, some k, .dat x => .ok (.dat ((dVal kvs k).getD x)) st3
    | _, _, _ => .stuck
  | none => .stuck
theorem sE_dget2 (ha : SimE K cl E ta ma) (hb : SimE K cl E tb mb) (hc : SimE K cl E tc mc) : SimE K cl E (tDGet2 ta tb tc) (mDGet2 ma mb mc) := by
  intro W σ H st I Q q
  refine ha W σ H st I _ (Res.imp (Res.bind q) fun a st1 W1 H1 _ I1 x1 q1 va ka => ?_)
  split at q1
  · rename_i kvs0 e0
    obtain ⟨p, kv0, rfl, hr0, r0⟩ := rdct_ok I1 ka e0
    refine ⟨p, rfl, .inl ⟨kv0, hr0⟩, hb W1 σ H1 st1 I1 _ (Res.imp (Res.bind q1) fun b st2 W2 H2 _ I2 x2 q2 vb kb => ?_)⟩
    refine hc W2 σ H2 st2 I2 _ (Res.imp (Res.bind q2) fun c st3 W3 H3 _ I3 x3 q3 vc kc => ?_)
    split at q3
    · rename_i kvs k x e1 e2 _
      obtain ⟨p', kv, ep, hr, r⟩ := rdct_ok I3 ((ka.ext x2).ext x3) e1
      cases ep
      refine ⟨valV kv k, .inl ⟨kv, k, hr, keyE_ok (kb.ext x3) e2, rfl⟩, q3.now I3 _ ?_⟩
      have ro := r.val k
      generalize valV kv k = ov at ro
      generalize dVal kvs k = od at ro
      cases ro with
      | none => exact kc
      | some h => exact h
    · exact q3.elim
  · exact q1.elim
/-! ### a dict is changed -/
theorem dct_own {st : St} {v : V} {ev : EV} {kvs : List (Key × D)} (I : Inv K cl W σ H st) (k : EvOk K W H σ v ev) (e : ownB st ev = some (.dct kvs)) : ∃ p kv, v = .ref p ∧ H p = some (.dK kv) ∧ KvR K W.F W.ρ kv kvs ∧
    ∀ (kv' : List (Key × V)) (kvs' : List (Key × D)), KvR K W.F W.ρ kv' kvs' → ∃ st', setH st ev (.dct kvs') = some st' ∧ Inv K cl W σ (upd H p (.dK kv')) st' ∧ Ext W H W (upd H p (.dK kv')) := by
  obtain ⟨p, t, rfl, ho, hn, ⟨kv, h, e1, e2⟩, hm⟩ := own_mut I k e
  refine ⟨p, kv, rfl, h, KvR.of e1 e2, fun kv' kvs' r => ?_⟩
  obtain ⟨st', e4, I3⟩ := hm (.dK kv') (.dct kvs') (BxOk.dct upd_same r)
  exact ⟨st', e4, I3, Ext.mut ho hn (nofz h nofz_dK)⟩
/-- d[k] = v -/
def mDPut (mo mi mv : M EV) : M Fl := fun st => (mv st).bind fun ev st1 => (toD ev st1).bind fun d st2 => (mo st2).bind fun o st3 => (mi st3).bind fun i st4 => match ownB st4 o, keyE i with
  | some (.dct kvs), some k => if kvs.length < sizeLine then match setH st4 o (.dct (dPut kvs k d)) with
    | some st5 => .ok .nx st5
    | none => .stuck
    else .stuck
  | _, _ => .stuck
theorem sS_dput {to ti tv : TE} {mo mi mv : M EV} (ho : SimE K cl E to mo) (hi : SimE K cl E ti mi) (hv : SimE K cl E tv mv) : SimS K cl E (sDPut to ti tv) (mDPut mo mi mv) := by
  intro W σ H st I D q
  refine hv W σ H st I _ (Res.imp (ResS.bind q) fun ev st1 W1 H1 _ I1 x1 q1 y k => ?_)
  obtain ⟨d, st2, W2, I2, x2, r, q2⟩ := toD_ok I1 k (ResS.bind q1)
  refine ho W2 σ H1 st2 I2 _ (Res.imp (ResS.bind q2) fun o st3 W3 H3 _ I3 x3 q3 vo ko => ?_)
  refine hi W3 σ H3 st3 I3 _ (Res.imp (ResS.bind q3) fun i st4 W4 H4 _ I4 x4 q4 vi ki => ?_)
  split at q4
  · rename_i kvs kk e1 e2
    split at q4
    · rename_i hl
      obtain ⟨p, kv, rfl, h, rr, hm⟩ := dct_own I4 (ko.ext x4) e1
      rw [keyE_ok ki e2]
      obtain ⟨st5, e4, I5, x5⟩ := hm (putK kv kk y) (dPut kvs kk d) (rr.put ((Rep.ext x3 r).ext x4))
      rw [e4] at q4
      exact ⟨p, _, rfl, DPut.k h (by rw [rr.len]; exact hl), q4 σ W4 _ I5 x5⟩
    · exact q4.elim
  · exact q4.elim
/-- d[k] op= v -/
def mDAug (g : D → D → Option D) (mo mi mv : M EV) : M Fl := fun st => (mo st).bind fun o st1 => (mi st1).bind fun i st2 => match rdct st2 o, keyE i with
  | some kvs, some k => match dVal kvs k with
    | some x => (mv st2).bind fun b st3 => match b with
      | .dat y => match g x y with
        | some z => match ownB st3 o with
          | some (.dct kvs') => if kvs'.length < sizeLine then match setH st3 o (.dct (dPut kvs' k z)) with
            | some st4 => .ok .nx st4
            | none => .stuck
            else .stuck
          | _ => .stuck
        | none => .stuck
      | _ => .stuck
    | none => .stuck
  | _, _ => .stuck
theorem sS_daug {to ti tv : TE} {mo mi mv : M EV} {rd : V → V → Hp → VK → Prop} {g : D → D → Option D} (hg : AuOk rd g) (ho : SimE K cl E to mo) (hi : SimE K cl E ti mi) (hv : SimE K cl E tv mv) : SimS K cl E (sDAug to ti tv rd) (mDAug g mo mi mv) := by
  intro W σ H st I D q
  refine ho W σ H st I _ (Res.imp (ResS.bind q) fun o st1 W1 H1 _ I1 x1 q1 vo ko => ?_)
  refine hi W1 σ H1 st1 I1 _ (Res.imp (ResS.bind q1) fun i st2 W2 H2 _ I2 x2 q2 vi ki => ?_)
  split at q2
  · rename_i kvs k e1 e2
    split at q2
    · rename_i x e3
      obtain ⟨p, kv, rfl, hr, r⟩ := rdct_ok I2 (ko.ext x2) e1
      rw [keyE_ok ki e2]
      have ro := r.val k
      rw [e3] at ro
      generalize hvv : valV kv k = ov at ro
      cases ro with
      | some rv =>
      refine ⟨p, _, rfl, .inl ⟨kv, k, hr, rfl, hvv.symm⟩, hv W2 σ H2 st2 I2 _ (Res.imp (ResS.bind q2) fun b st3 W3 H3 _ I3 x3 q3 vb kb => ?_)⟩
      split at q3
      · rename_i y _
        split at q3
        · rename_i z ez
          obtain ⟨vx, vy, vz, ex, ey, ed, kk⟩ := hg x y z ez
          rw [scV_rep ex rv, scV_rep ey kb]
          refine kk H3 _ ?_
          split at q3
          · rename_i kvs' e4
            split at q3
            · rename_i hl
              obtain ⟨p', kv', ep, h', rr, hm⟩ := dct_own I3 ((ko.ext x2).ext x3) e4
              cases ep
              obtain ⟨st5, e5, I5, x5⟩ := hm (putK kv' k vz) (dPut kvs' k z) (rr.put (scV_mk ed))
              rw [e5] at q3
              exact ⟨_, DPut.k h' (by rw [rr.len]; exact hl), q3 σ W3 _ I5 x5⟩
            · exact q3.elim
          · exact q3.elim
        · exact q3.elim
      · exact q3.elim
    · exact q2.elim
  · exact q2.elim
/-- del d[k] -/
def mDDel (mo mi : M EV) : M Fl := fun st => (mo st).bind fun o st1 => (mi st1).bind fun i st2 => match ownB st2 o, keyE i with
  | some (.dct kvs), some k => if (dVal kvs k).isSome = true then match setH st2 o (.dct (dDrop kvs k)) with
    | some st3 => .ok .nx st3
    | none => .stuck
    else .stuck
  | _, _ => .stuck
theorem sS_ddel {to ti : TE} {mo mi : M EV} (ho : SimE K cl E to mo) (hi : SimE K cl E ti mi) : SimS K cl E (sDDel to ti) (mDDel mo mi) := by
  intro W σ H st I D q
  refine ho W σ H st I _ (Res.imp (ResS.bind q) fun o st1 W1 H1 _ I1 x1 q1 vo ko => ?_)
  refine hi W1 σ H1 st1 I1 _ (Res.imp (ResS.bind q1) fun i st2 W2 H2 _ I2 x2 q2 vi ki => ?_)
  split at q2
  · rename_i kvs kk e1 e2
    split at q2
    · rename_i hl
      obtain ⟨p, kv, rfl, h, rr, hm⟩ := dct_own I2 (ko.ext x2) e1
      rw [keyE_ok ki e2]
      obtain ⟨st5, e4, I5, x5⟩ := hm (dropK kv kk) (dDrop kvs kk) (rr.drop kk)
      rw [e4] at q2
      exact ⟨p, kv, kk, rfl, h, rfl, by rw [(rr.val kk).isSome]; exact hl, q2 σ W2 _ I5 x5⟩
    · exact q2.elim
  · exact q2.elim
/-- d.pop(k) -/
def mDPop1 (ma mb : M EV) : M EV := fun st => (ma st).bind fun a st1 => match rdct st1 a with
  | some _ => (mb st1).bind fun b st2 => match ownB st2 a, keyE b with
    | some (.dct kvs), some k => match dVal kvs k with
      | some d => match setH st2 a (.dct (dDrop kvs k)) with
        | some st3 => .ok (.dat d) st3
        | none => .stuck
      | none => .stuck
    | _, _ => .stuck
  | none => .stuck
theorem sE_dpop1 (ha : SimE K cl E ta ma) (hb : SimE K cl E tb mb) : SimE K cl E (tDPop1 ta tb) (mDPop1 ma mb) := by
  intro W σ H st I Q q
  refine ha W σ H st I _ (Res.imp (Res.bind q) fun a st1 W1 H1 _ I1 x1 q1 va ka => ?_)
  split at q1
  · rename_i kvs0 e0
    obtain ⟨p, kv0, rfl, hr0, r0⟩ := rdct_ok I1 ka e0
    refine ⟨p, rfl, .inl ⟨kv0, hr0⟩, hb W1 σ H1 st1 I1 _ (Res.imp (Res.bind q1) fun b st2 W2 H2 _ I2 x2 q2 vb kb => ?_)⟩
    split at q2
    · rename_i kvs k e1 e2
      obtain ⟨p', kv, ep, h, r, hm⟩ := dct_own I2 (ka.ext x2) e1
      cases ep
      split at q2
      · rename_i d e3
        have ro := r.val k
        rw [e3] at ro
        generalize hvv : valV kv k = ov at ro
        cases ro with
        | some rv =>
        obtain ⟨st5, e5, I5, x5⟩ := hm (dropK kv k) (dDrop kvs k) (r.drop k)
        rw [e5] at q2
        exact ⟨kv, k, _, h, keyE_ok kb e2, hvv, q2 W2 _ I5 x5 _ rv⟩
      · exact q2.elim
    · exact q2.elim
  · exact q1.elim
/-! ### new dicts -/
def mDNew : M BX := M.pure (.dct [])
theorem sN_dnew : SimN K cl E tDNewK mDNew := by
  intro W σ H st I Q q p hp
  obtain ⟨z1, z2⟩ := I.free hp
  exact q W _ (I.new0 hp) (Ext.new0 hp) p hp z2 z1 ⟨[], upd_same, rfl, .nil⟩
/-- len(d) -/
def mDLen (ma : M EV) : M EV := fun st => (ma st).bind fun a st1 => match ownB st1 a with
  | some (.dct kvs) => .ok (.dat (.int kvs.length)) st1
  | _ => .stuck
theorem sE_dlen (ha : SimE K cl E ta ma) : SimE K cl E (tCB (fun xs H Q => ∃ a kvs, xs = [V.ref a] ∧ H a = some (.dK kvs) ∧ Q (.int kvs.length) H) (tCons ta tNil)) (mDLen ma) := by
  intro W σ H st I Q q
  refine ha W σ H st I _ (Res.imp (Res.bind q) fun a st1 W1 H1 _ I1 x1 q1 va ka => ?_)
  split at q1
  · rename_i kvs e1
    obtain ⟨p, kv, rfl, h, r, _⟩ := dct_own I1 ka e1
    refine ⟨p, kv, rfl, h, ?_⟩
    rw [r.len]
    exact q1.now I1 _ (.int _)
  · exact q1.elim
/-- list(d) -/
def mDList (ma : M EV) : M BX := fun st => (ma st).bind fun a st1 => match ownB st1 a with
  | some (.dct kvs) => .ok (.lst (kvs.map fun kv => dK kv.1)) st1
  | _ => .stuck
theorem keys_rep {F : Hp} {ρ : List Addr} : ∀ {kv : List (Key × V)} {kvs : List (Key × D)}, KvR K F ρ kv kvs → RepL K F ρ (kv.map fun x => kV x.1) (kvs.map fun x => dK x.1)
  | _, _, .nil => .nil
  | _, _, .cons (k := k) _ t => .cons (dK_rep k) (keys_rep t)
theorem sN_dlist (ha : SimE K cl E ta ma) : SimN K cl E (tCB rListD (tCons ta tNil)) (mDList ma) := by
  intro W σ H st I Q q
  refine ha W σ H st I _ (Res.imp (Res.bind q) fun a st1 W1 H1 _ I1 x1 q1 va ka => ?_)
  split at q1
  · rename_i kvs e1
    obtain ⟨p, kv, rfl, h, r, _⟩ := dct_own I1 ka e1
    refine ⟨p, kv, rfl, h, fun l hl => ?_⟩
    obtain ⟨z1, z2⟩ := I1.free hl
    exact q1 W1 _ (I1.new0 hl) (Ext.new0 hl) l (x1.lv l hl) z2 z1 ⟨_, upd_same, keys_rep r⟩
  · exact q1.elim
/-- dict(d) -/
def rCopyD : List V → Hp → VK → Prop := fun xs H Q => ∃ a kvs, xs = [V.ref a] ∧ Rd H a (.dK kvs) ∧ ∀ p, H p = none → Q (.ref p) (upd H p (.dK kvs))
theorem call_copyD {X : Cx} : CallR X (.type "dict") rCopyD := by
  intro pins s σ H xs us Q I r h
  obtain ⟨a, kvs, rfl, e, q⟩ := h
  cases r with
  | cons r rr =>
    cases rr
    obtain rfl : _ = Value.ref a := r
    exact d_copyOf I e fun p s' hp I' => ⟨.ref p, _, I', rfl, q p hp⟩
def mDCopy (ma : M EV) : M BX := fun st => (ma st).bind fun a st1 => match rdct st1 a with
  | some kvs => .ok (.dct kvs) st1
  | _ => .stuck
theorem sN_dcopy (ha : SimE K cl E ta ma) : SimN K cl E (tCB rCopyD (tCons ta tNil)) (mDCopy ma) := by
  intro W σ H st I Q q
  refine ha W σ H st I _ (Res.imp (Res.bind q) fun a st1 W1 H1 _ I1 x1 q1 va ka => ?_)
  split at q1
  · rename_i kvs e1
    obtain ⟨p, kv, rfl, h, r⟩ := rdct_ok I1 ka e1
    refine ⟨p, kv, rfl, h, fun l hl => ?_⟩
    obtain ⟨z1, z2⟩ := I1.free hl
    exact q1 W1 _ (I1.new0 hl) (Ext.new0 hl) l (x1.lv l hl) z2 z1 (BxOk.dct upd_same r)
  · exact q1.elim
end
end Mi

set_option Elab.async false
set_option linter.all false
set_option maxRecDepth 100000
set_option maxHeartbeats 4000000
namespace Mi
open PySem PySem.Spec PyProof.Rows L2
section
variable {K : Frag} {cl : (Str → Addr) × Addr × Bool} {E : Kv.Er → L2.St → Hp → Prop} {W : Wd} {σ : L2.St} {H : Hp} {ta tb tc : TE} {ma mb mc : M EV}
/-! ### a dict is locked while it is walked -/
theorem nofz_upd {a : Addr} {o : HO} : upd H a o a = some o := upd_same
theorem lock_in {st : St} {j : Nat} {kvs : List (Key × D)} (I : Inv K cl W σ H st) (e : st.S[j]? = some (.bx (.dct kvs))) : ∃ a kv, W.ρ[j]? = some a ∧ W.ow a = some (.ob j) ∧ H a = some (.dK kv) ∧
    ∀ od, Inv K cl W σ (upd H a (.frz od (.dK kv))) { st with S := st.S.set j (.bx (.fz kvs)) } := by
  obtain ⟨a, hr, ho, kv, h, e1, e2⟩ := I.obs j _ e
  exact ⟨a, kv, hr, ho, h, fun od => I.mutOb e hr ho ⟨od, kv, upd_same, e1, e2⟩⟩
theorem lock_out {st : St} {j : Nat} {a : Addr} {od : Obj} {kv : List (Key × V)} {kvs : List (Key × D)} (I : Inv K cl W σ H st) (hr : W.ρ[j]? = some a) (h : H a = some (.frz od (.dK kv))) (e : st.S[j]? = some (.bx (.fz kvs))) : Inv K cl W σ (upd H a (.dK kv)) { st with S := st.S.set j (.bx (.dct kvs)) } := by
  obtain ⟨a', hr', ho, od', kv', h', e1, e2⟩ := I.obs j _ e
  rw [hr] at hr'
  cases hr'
  rw [h] at h'
  cases h'
  exact I.mutOb e hr ho ⟨kv, upd_same, e1, e2⟩
theorem Ext.unlock {W' : Wd} {H' : Hp} {a : Addr} {od : Obj} {kv : List (Key × V)} {t : Tag} (h : H a = some (.dK kv)) (ho : W.ow a = some t) (x : Ext W (upd H a (.frz od (.dK kv))) W' H') : Ext W H W' (upd H' a (.dK kv)) := by
  have hne : ∀ {p : Addr}, W.ow p = none → p ≠ a := fun {p} z c => by subst c; rw [ho] at z; cases z
  refine ⟨x.sF, x.rr, x.ow, fun p o e z => ?_, x.xt, fun p o e z => x.nw p o (by rw [upd_ne (hne z)]; exact e) z, fun p e => ?_, fun p o e z f => x.fz p o (by rw [upd_ne (hne z)]; exact e) z f, x.xa⟩
  · by_cases c : p = a
    · subst c; rw [h] at e; cases e; exact upd_same
    · rw [upd_ne c]; exact x.un p o (by rw [upd_ne c]; exact e) z
  · by_cases c : p = a
    · subst c; rw [upd_same] at e; cases e
    · rw [upd_ne c] at e
      have := x.lv p e
      rw [upd_ne c] at this
      exact this
theorem Ext.lock0 {W' : Wd} {H' : Hp} {a : Addr} {od : Obj} {kv : List (Key × V)} {j : Nat} (h : H a = some (.dK kv)) (ho : W.ow a = some (.ob j)) (x : Ext W (upd H a (.frz od (.dK kv))) W' H') : Ext W H W' H' := by
  have hne : ∀ {p : Addr}, W.ow p = none → p ≠ a := fun {p} z c => by subst c; rw [ho] at z; cases z
  refine ⟨x.sF, x.rr, x.ow, fun p o e z => ?_, x.xt, fun p o e z => x.nw p o (by rw [upd_ne (hne z)]; exact e) z, fun p e => ?_, fun p o e z f => x.fz p o (by rw [upd_ne (hne z)]; exact e) z f, x.xa⟩
  · by_cases c : p = a
    · subst c
      rcases z with z | z | z
      · rw [ho] at z; cases z
      · rw [ho] at z; cases z
      · rw [h] at e; cases e; exact absurd z nofz_dK
    · exact x.un p o (by rw [upd_ne c]; exact e) z
  · by_cases c : p = a
    · subst c
      have := x.lv p e
      rw [upd_same] at this
      cases this
    · have := x.lv p e
      rw [upd_ne c] at this
      exact this
def unlR {α : Type} (j : Nat) (a : α) (st : St) : R α := match st.S[j]? with
  | some (.bx (.fz kvs)) => .ok a { st with S := st.S.set j (.bx (.dct kvs)) }
  | _ => .stuck
def lockM {α : Type} (me : M EV) (body : M α) : M α := fun st => match me st with
  | .ok (.dat (.ob j)) _ => match st.S[j]? with
    | some (.bx (.dct kvs)) => (body { st with S := st.S.set j (.bx (.fz kvs)) }).bind (unlR j)
    | _ => .stuck
  | _ => .stuck
theorem EvOk.upd {v : V} {ev : EV} {a : Addr} {o : HO} {t : Tag} (ho : W.ow a = some t) (k : EvOk K W H σ v ev) : EvOk K W (L2.upd H a o) σ v ev := by
  cases ev with
  | dat d => exact k
  | sl i => exact k
  | io i => exact k
  | fl j f => exact k
  | exc => exact k
  | tp b =>
    obtain ⟨p, e, z1, z2, kb⟩ := k
    exact ⟨p, e, z1, z2, kb.kp (Same.refl _) (List.prefix_refl _) (upd_ne fun c => by subst c; rw [ho] at z2; cases z2)⟩
theorem sS_lock {ts : TS} {ms : M Fl} {me : M EV} (h : SimS K cl E ts ms) : SimS K cl E (tLock ts) (lockM me ms) := by
  intro W σ H st I D q
  unfold lockM at q
  split at q
  rotate_left
  · exact q.elim
  rename_i j _ _
  split at q
  rotate_left
  · exact q.elim
  rename_i kvs es
  obtain ⟨a, kv, hr, ho, ha, hI⟩ := lock_in I es
  refine ⟨a, .dK kv, ha, trivial, fun od => h W σ _ _ (hI od) _ ?_⟩
  have key : ∀ {W' : Wd} {H' : Hp} {σ' : L2.St} {st' : St}, Inv K cl W' σ' H' st' → Ext W (upd H a (.frz od (.dK kv))) W' H' → H' a = some (.frz od (.dK kv)) ∧ W'.ρ[j]? = some a ∧ W'.ow a = some (.ob j) := by
    intro W' H' σ' st' I' x'
    refine ⟨x'.un a _ upd_same (.inr (.inr ⟨_, _, rfl⟩)), ?_, x'.ow a _ ho (by simp)⟩
    obtain ⟨t, e⟩ := x'.rr
    rw [← e, List.getElem?_append_left (List.getElem?_eq_some_iff.mp hr).1]
    exact hr
  cases er : ms { st with S := st.S.set j (.bx (.fz kvs)) } with
  | stuck => rw [er] at q; exact q
  | err e st' => rw [er] at q; exact fun σ' W' H' I' x' => q σ' W' H' I' (Ext.lock0 ha ho x')
  | ok f st' =>
    rw [er] at q
    have q : ResS K cl E W H (unlR j f st') D := q
    unfold unlR at q
    split at q
    rotate_left
    · exact False.elim q
    rename_i kvs' es'
    cases f with
    | nx =>
      intro σ' W' H' I' x'
      obtain ⟨k1, k2, k3⟩ := key I' x'
      exact ⟨k1, q σ' W' _ (lock_out I' k2 k1 es') (Ext.unlock ha ho x')⟩
    | brk =>
      intro σ' W' H' I' x'
      obtain ⟨k1, k2, k3⟩ := key I' x'
      exact ⟨k1, q σ' W' _ (lock_out I' k2 k1 es') (Ext.unlock ha ho x')⟩
    | cont =>
      intro σ' W' H' I' x'
      obtain ⟨k1, k2, k3⟩ := key I' x'
      exact ⟨k1, q σ' W' _ (lock_out I' k2 k1 es') (Ext.unlock ha ho x')⟩
    | ret ev =>
      intro σ' W' H' v I' x' k fr
      obtain ⟨k1, k2, k3⟩ := key I' x'
      refine ⟨k1, q σ' W' _ v (lock_out I' k2 k1 es') (Ext.unlock ha ho x') (EvOk.upd k3 k) fun b eb => ?_⟩
      obtain ⟨p, e1, e2⟩ := fr b eb
      refine ⟨p, e1, ?_⟩
      rw [upd_ne (fun c => by subst c; rw [upd_same] at e2; cases e2)] at e2
      exact e2
theorem sN_lock {te : TE} {mn : M BX} {me : M EV} (h : SimN K cl E te mn) : SimN K cl E (tLockE te) (lockM me mn) := by
  intro W σ H st I Q q
  unfold lockM at q
  split at q
  rotate_left
  · exact q.elim
  rename_i j _ _
  split at q
  rotate_left
  · exact q.elim
  rename_i kvs es
  obtain ⟨a, kv, hr, ho, ha, hI⟩ := lock_in I es
  refine ⟨a, .dK kv, ha, trivial, fun od => h W σ _ _ (hI od) _ ?_⟩
  have key : ∀ {W' : Wd} {H' : Hp} {σ' : L2.St} {st' : St}, Inv K cl W' σ' H' st' → Ext W (upd H a (.frz od (.dK kv))) W' H' → H' a = some (.frz od (.dK kv)) ∧ W'.ρ[j]? = some a ∧ W'.ow a = some (.ob j) := by
    intro W' H' σ' st' I' x'
    refine ⟨x'.un a _ upd_same (.inr (.inr ⟨_, _, rfl⟩)), ?_, x'.ow a _ ho (by simp)⟩
    obtain ⟨t, e⟩ := x'.rr
    rw [← e, List.getElem?_append_left (List.getElem?_eq_some_iff.mp hr).1]
    exact hr
  cases er : mn { st with S := st.S.set j (.bx (.fz kvs)) } with
  | stuck => rw [er] at q; exact q
  | err e st' => rw [er] at q; exact fun W' H' I' x' => q W' H' I' (Ext.lock0 ha ho x')
  | ok b st' =>
    rw [er] at q
    have q : Res K cl E W σ H (unlR j b st') (fun b _ W' H' => ∀ p, H p = none → W'.F p = none → W'.ow p = none → BxOk K W' H' p b → Q (.ref p) H') := q
    unfold unlR at q
    split at q
    rotate_left
    · exact q.elim
    rename_i kvs' es'
    intro W' H' I' x' p hp z1 z2 kb
    obtain ⟨k1, k2, k3⟩ := key I' x'
    have pa : p ≠ a := fun c => by subst c; rw [k3] at z2; cases z2
    rw [upd_ne pa] at hp
    exact ⟨k1, q W' _ (lock_out I' k2 k1 es') (Ext.unlock ha ho x') p hp z1 z2 (kb.kp (Same.refl _) (List.prefix_refl _) (upd_ne pa))⟩
/-- the keys of a locked dict -/
def mIKeys (me : M EV) : M Itr := fun st => (me st).bind fun a st1 => match a with
  | .dat (.ob j) => match st1.S[j]? with
    | some (.bx (.fz kvs)) => .ok ⟨kvs.map fun kv => dK kv.1, fun _ => True⟩ st1
    | _ => .stuck
  | _ => .stuck
theorem sI_keys (ha : SimE K cl E ta ma) : SimI K cl E (iKeys ta) (mIKeys ma) := by
  intro W σ H st I R q
  refine ha W σ H st I _ (Res.imp (Res.bind q) fun a st1 W1 H1 hm1 I1 x1 q1 v k => ?_)
  split at q1
  rotate_left
  · exact q1.elim
  rename_i j
  split at q1
  rotate_left
  · exact q1.elim
  rename_i kvs es
  obtain ⟨p, hr, ho, od, kv, h, e1, e2⟩ := I1.obs j _ es
  have r := KvR.of e1 e2
  cases k with
  | ob hk =>
  rw [hr] at hk
  cases hk
  refine ⟨p, od, rfl, .inl ⟨kv, h, ?_⟩⟩
  have hlen : (kvs.map fun kv => dK kv.1).length = kv.length := by rw [List.length_map, r.len]
  refine q1.now I1 (Itk p od kv) (fun H => H p = some (.frz od (.dK kv))) (fun i H x H' => H' = H ∧ ∃ k v, kv[i]? = some (k, v) ∧ x = kV k) ?_ ⟨fun W2 σ2 H2 st2 I2 x2 _ => x2.un p _ h (.inr (.inr ⟨_, _, rfl⟩)), ?_⟩
  · show Walk _ (kvs.map fun kv => dK kv.1).length _ _
    rw [hlen]
    exact walk_keys
  · rintro i d W2 σ2 H2 st2 x H3 ed I2 x2 _ ⟨rfl, k, v, ek, rfl⟩
    obtain ⟨d', ed', _⟩ := r.get ek
    have ed : (kvs.map fun kv => dK kv.1)[i]? = some d := ed
    rw [List.getElem?_map, ed'] at ed
    cases ed
    exact ⟨W2, I2, Ext.refl _ _, dK_rep k⟩
/-! ### dict comprehensions -/
def dcR (f : List (Key × D) → M (List (Key × D))) (acc : List (Key × D)) (k : Option Key) (ev : EV) : M (List (Key × D)) := fun st => match k, ev with
  | some k, .dat x => if acc.length < sizeLine then f (dPut acc k x) st else .stuck
  | _, _ => .stuck
def dcL (vs : List Nat) (chk : St → Prop) (mg : EV → M Unit) (mt : M Bool) (mk me : M EV) [∀ st, Decidable (chk st)] : List D → List (Key × D) → M (List (Key × D))
  | [], acc, st => if chk (st.wiped vs) then .ok acc st else .stuck
  | d :: r, acc, st => if chk (st.wiped vs) then (mg (.dat d) (st.wiped vs)).bind fun _ st1 => (mt st1).bind fun b st2 =>
      if b = true then (mk st2).bind fun kv st3 => (me st3).bind fun ev st4 => dcR (fun acc => dcL vs chk mg mt mk me r acc) acc (keyE kv) ev st4
      else dcL vs chk mg mt mk me r acc st2
    else .stuck
open Classical in
noncomputable def mDc (vs : List Nat) (mi : M Itr) (mg : EV → M Unit) (mt : M Bool) (mk me : M EV) : M BX := fun st => (mi st).bind fun it st1 => match dcL vs it.chk mg mt mk me it.ds [] st1 with
  | .ok ds st2 => .ok (.dct ds) { st2 with env := restE st1.env st2.env vs }
  | _ => .stuck
theorem dc_it {J : It} {n : Nat} {G : Hp → Prop} {Y : Nat → Hp → V → Hp → Prop} (w : Walk J n G Y) {g : TG} {tt : TT} {tk tv : TE} {vs : List Nat} {σ : L2.St} {H1 : Hp} {D : Addr} {Qd : Hp → Prop} (Pv : Nat → Hp → Prop) (h0 : Pv 0 (upd H1 D (.dK []))) (hG : ∀ i H, i ≤ n → Pv i H → G H)
    (hs : ∀ i x H H', i < n → Pv i H → Y i H x H' → g x (wipe σ vs) H' fun σ2 H2 => wipe σ2 vs = wipe σ vs ∧ tt σ2 H2 fun b H3 => if b = true then tk σ2 H3 fun y H4 => tv σ2 H4 fun z H5 => ∃ kvs k, y = kV k ∧ H5 D = some (.dK kvs) ∧ kvs.length < sizeLine ∧ Pv (i + 1) (upd H5 D (.dK (putK kvs k z))) else Pv (i + 1) H3)
    (hd : ∀ H, Pv n H → Qd H) : ∃ W : Nat → Nat → Hp → Prop, (∃ m, W 0 m (upd H1 D (.dK []))) ∧ ∀ i m H, W i m H →
  (J.stop i H ∧ Qd H) ∨ (J.go i H ∧ ∃ Nx : Hp → Prop, (∀ H', Nx H' → ∃ m', m' < m ∧ W (i + 1) m' H') ∧ ∀ x H', J.yld i H x H' → g x (wipe σ vs) H' fun σ2 H2 => wipe σ2 vs = wipe σ vs ∧ tt σ2 H2 fun b H3 =>
    if b = true then tk σ2 H3 fun y H4 => tv σ2 H4 fun z H5 => ∃ kvs k, y = kV k ∧ H5 D = some (.dK kvs) ∧ kvs.length < sizeLine ∧ Nx (upd H5 D (.dK (putK kvs k z))) else Nx H3) := by
  refine ⟨fun i m H => m = n - i ∧ i ≤ n ∧ Pv i H, ⟨n, by omega, Nat.zero_le _, h0⟩, ?_⟩
  rintro i m H ⟨rfl, hi, p⟩
  rcases Nat.lt_or_ge i n with c | c
  · refine .inr ⟨w.goes i H c (hG i H hi p), fun H' => Pv (i + 1) H', fun H' p' => ⟨n - (i + 1), by omega, rfl, c, p'⟩, fun x H' y => hs i x H H' c p (w.yields i H x H' c (hG i H hi p) y)⟩
  · have : i = n := by omega
    subst this
    exact .inl ⟨w.stops H (hG i H hi p), hd H p⟩
theorem sN_dc {vs : List Nat} {wi : TI} {g : TG} {tt : TT} {tk te : TE} {mi : M Itr} {mg : EV → M Unit} {mt : M Bool} {mk me : M EV} (hi : SimI K cl E wi mi) (hg : SimG K cl EF vs g mg) (ht : SimT K cl EF tt mt) (hk : SimE K cl EF tk mk) (he : SimE K cl EF te me) : SimN K cl E (tDc wi g tt tk te vs) (mDc vs mi mg mt mk me) := by
  intro W σ H st I Q q
  refine hi W σ H st I _ (Res.imp (Res.bind q) fun it st1 W1 H1 hm1 I1 x1 q1 J G Y w gy => ?_)
  intro L hL
  obtain ⟨z1, z2⟩ := I1.free hL
  let inst : ∀ st, Decidable (it.chk st) := fun st => Classical.propDecidable _
  let Fin : List (Key × D) → St → Prop := fun ds st2 => ∀ W' H' us, Inv K cl W' (wipe σ vs) H' (st2.wiped vs) → Ext W1 H1 W' H' → W'.ow L = none → W'.F L = none → H' L = some (.dK us) → KvR K W'.F W'.ρ us ds → Q (.ref L) H'
  let RL : R (List (Key × D)) → Prop := fun r => match r with
    | .ok ds st2 => Fin ds st2
    | _ => False
  have q2 : RL (@dcL vs it.chk mg mt mk me inst it.ds [] st1) := by
    cases e : @dcL vs it.chk mg mt mk me inst it.ds [] st1 with
    | ok ds st2 =>
      rw [e] at q1
      intro W' H' us I' x' o1 o2 eL r
      refine q1 W' H' ?_ x' L (x1.lv L hL) o2 o1 (BxOk.dct eL r)
      refine Inv.slot (st := st2.wiped vs) I' ?_ fun i sv h => ?_
      · rw [restE_len, ← wipeE_len st2.env vs]
        have := I'.len
        rw [wipe_length] at this
        exact this
      · rcases restE_some h with ⟨m, h, n⟩ | ⟨m, h⟩
        · have k := I1.slots i sv h
          cases sv with
          | own b => exact absurd rfl (n b)
          | dat d => obtain ⟨v, e, r⟩ := k; exact ⟨v, e, r.ext x'⟩
          | io j => obtain ⟨v, e, r⟩ := k; exact ⟨v, e, x'.ow v _ r (by simp)⟩
          | fl j f => obtain ⟨v, e, r⟩ := k; exact ⟨v, e, x'.ow v _ r (by simp)⟩
          | exc => exact (show σ[i]? = some (some (.ref W1.xa.1)) from k).trans (by rw [x'.xa])
        · refine (I'.slots i sv ?_).sig ?_
          · show (wipeE st2.env vs)[i]? = _
            rw [wipeE_get, if_neg m]; exact h
          · rw [wipe_get, if_neg m]
    | err e' st2 => rw [e] at q1; exact q1.elim
    | stuck => rw [e] at q1; exact q1.elim
  refine dc_it w (Pv := fun i H' => ∃ W' st' acc us, Inv K cl W' (wipe σ vs) H' (st'.wiped vs) ∧ Ext W1 H1 W' H' ∧ W'.ow L = none ∧ W'.F L = none ∧ H' L = some (.dK us) ∧ KvR K W'.F W'.ρ us acc ∧ RL (@dcL vs it.chk mg mt mk me inst (it.ds.drop i) acc st')) ?_ ?_ ?_ ?_
  · exact ⟨W1, st1, [], [], (I1.new0 hL).wipe rfl, Ext.new0 hL, z1, z2, upd_same, .nil, q2⟩
  · rintro i H' hi' ⟨W', st', acc, us, I', x', o1, o2, eL, r, q'⟩
    refine gy.g W' _ H' _ I' x' ?_
    cases hd : it.ds.drop i with
    | nil =>
      rw [hd] at q'
      unfold dcL at q'
      split at q'
      · assumption
      · exact q'.elim
    | cons d t =>
      rw [hd] at q'
      unfold dcL at q'
      split at q'
      · assumption
      · exact q'.elim
  · rintro i x H' H2 hi' ⟨W', st', acc, us, I', x', o1, o2, eL, r, q'⟩ y
    have ed : it.ds[i]? = some it.ds[i] := List.getElem?_eq_getElem hi'
    rw [List.drop_eq_getElem_cons hi'] at q'
    unfold dcL at q'
    split at q'
    rotate_left
    · exact q'.elim
    rename_i hc
    obtain ⟨W3, I3, x3, r3⟩ := gy.y i _ W' _ H' _ x H2 ed I' x' hc y
    refine hg W3 (wipe σ vs) H2 _ x (.dat it.ds[i]) I3 r3 _ ?_
    cases e : mg (.dat it.ds[i]) (st'.wiped vs) with
    | err e' st4 => rw [e] at q'; exact q'.elim
    | stuck => rw [e] at q'; exact q'.elim
    | ok a st4 =>
    rw [e] at q'
    intro σ4 W4 H4 I4 x4 w4
    rw [wipe_idem] at w4
    refine ⟨w4, ht W4 σ4 H4 st4 I4 _ ?_⟩
    have q' : RL ((mt st4).bind fun b st2 => if b = true then (mk st2).bind fun kv st3 => (me st3).bind fun ev st4 => dcR (fun acc => @dcL vs it.chk mg mt mk me inst (it.ds.drop (i + 1)) acc) acc (keyE kv) ev st4
      else @dcL vs it.chk mg mt mk me inst (it.ds.drop (i + 1)) acc st2) := q'
    cases e5 : mt st4 with
    | err e' st5 => rw [e5] at q'; exact q'.elim
    | stuck => rw [e5] at q'; exact q'.elim
    | ok b st5 =>
    rw [e5] at q'
    intro W5 H5 I5 x5
    have x35 : Ext W' H' W5 H5 := (x3.trans x4).trans x5
    have n5 := x35.nw L _ eL o1
    have f5 := x35.fz L _ eL o1 o2
    have e5 := x35.un L _ eL (.inl o1)
    have q' : RL (if b = true then (mk st5).bind fun kv st3 => (me st3).bind fun ev st4 => dcR (fun acc => @dcL vs it.chk mg mt mk me inst (it.ds.drop (i + 1)) acc) acc (keyE kv) ev st4
      else @dcL vs it.chk mg mt mk me inst (it.ds.drop (i + 1)) acc st5) := q'
    split at q'
    · rename_i cb
      rw [if_pos cb]
      refine hk W5 σ4 H5 st5 I5 _ ?_
      cases e6 : mk st5 with
      | err e' st6 => rw [e6] at q'; exact q'.elim
      | stuck => rw [e6] at q'; exact q'.elim
      | ok kev st6 =>
      rw [e6] at q'
      intro W6 H6 I6 x6 yv ky
      refine he W6 σ4 H6 st6 I6 _ ?_
      have q' : RL ((me st6).bind fun ev st4 => dcR (fun acc => @dcL vs it.chk mg mt mk me inst (it.ds.drop (i + 1)) acc) acc (keyE kev) ev st4) := q'
      cases e7 : me st6 with
      | err e' st7 => rw [e7] at q'; exact q'.elim
      | stuck => rw [e7] at q'; exact q'.elim
      | ok ev st7 =>
      rw [e7] at q'
      intro W7 H7 I7 x7 v kv
      have q2 : RL (dcR (fun acc => @dcL vs it.chk mg mt mk me inst (it.ds.drop (i + 1)) acc) acc (keyE kev) ev st7) := q'
      clear q'
      unfold dcR at q2
      split at q2
      rotate_left
      · exact q2.elim
      rename_i kk xd ekk
      have q' := q2
      split at q'
      rotate_left
      · exact q'.elim
      rename_i hz
      have x37 : Ext W' H' W7 H7 := (x35.trans x6).trans x7
      have e6 := x37.un L _ eL (.inl o1)
      have n6 := x37.nw L _ eL o1
      have f6 := x37.fz L _ eL o1 o2
      have r6 := r.mono x37.sF x37.rr
      exact ⟨us, kk, keyE_ok (ky.ext x7) ekk, e6, by rw [r.len]; exact hz, W7, st7, _, _, ((I7.wipe w4).tmp f6 n6), (x'.trans x37).tmp hL, n6, f6, upd_same, r6.put kv, q'⟩
    · rename_i cb
      rw [if_neg cb]
      exact ⟨W5, st5, acc, us, I5.wipe w4, x'.trans x35, n5, f5, e5, r.mono x35.sF x35.rr, q'⟩
  · rintro H' ⟨W', st', acc, us, I', x', o1, o2, eL, r, q'⟩
    rw [List.drop_length] at q'
    unfold dcL at q'
    split at q'
    · exact q' W' H' us I' x' o1 o2 eL r
    · exact q'.elim
end
theorem sw_dc {kx vx : Expr} {gs : List Comprehension} {scope : Scope} {pos py : Pos} {y : Str} {l : Nat} {env : Env} (hk : env.scope.kind = .function) (hy : env.scope.names.lookup y = some .local) (hl : (py.line == pos.line) = true)
    (ha : (scope.names.any fun (n, k) => n == y && (k == .local || k == .cell)) = false) : swapsWith (.DictComp kx vx gs scope pos) (some (.Name y py)) l env = pure true := by
  have ky : env.kindOf y = some .local := hy
  have hb : env.blockKind = .function := by unfold Env.blockKind; rw [hk]; rfl
  unfold swapsWith
  simp only [hb, ky, ha, Expr.pos, hl]
  rfl
/-- y = {..: .. for ..} -/
theorem ps_setDc {X : Cx} {i : Nat} {y : Str} {py : Pos} {kx vx tg iter : Expr} {ifs : List Expr} {scope : Scope} {own : List (Str × Nat)} {pos spos : Pos} {wi : TI} {g : TG} {tt : TT} {tk tv : TE} (hc : X.calm = true) (hN : X.N.Nodup) (hy : X.N[i]? = some y) (hyl : X.env.scope.names.lookup y = some .local)
    (hsw : swapsWith (.DictComp kx vx [⟨tg, iter, ifs, 0⟩] scope pos) (some (.Name y py)) spos.line X.env = pure true) (hi : PI X tg iter wi) (ok : BlkOk X.N X.env.scope scope own)
    (hg : ∀ (s : Shared) (H : Hp) (C : Addr) (cl : List (Str × Addr)) (fp : List Addr), PG (X.blk s H scope (compEnvC scope cl C X.env) fp) tg g) (ht : ∀ (s : Shared) (H : Hp) (C : Addr) (cl : List (Str × Addr)) (fp : List Addr), PTs (X.blk s H scope (compEnvC scope cl C X.env) fp) ifs tt)
    (hk : ∀ (s : Shared) (H : Hp) (C : Addr) (cl : List (Str × Addr)) (fp : List Addr), PE (X.blk s H scope (compEnvC scope cl C X.env) fp) kx tk)
    (he : ∀ (s : Shared) (H : Hp) (C : Addr) (cl : List (Str × Addr)) (fp : List Addr), PE (X.blk s H scope (compEnvC scope cl C X.env) fp) vx tv) (hs : ∀ x, foldedSetIterable iter X.env x = pure x := by intro _; rfl) :
    PS X (.Assign [.Name y py] (.DictComp kx vx [⟨tg, iter, ifs, 0⟩] scope pos) spos) (tAsg (tDc wi g tt tk tv (own.map (·.2))) (gName i)) := by
  refine ⟨fun pins s σ H D I h => ?_⟩
  rw [exec_Assign_Name_used _ _ _ _ hsw]
  refine wpAny_bind (wpAny_standAt (wpAny_bind ?_))
  show wpAny _ X.A (do let _ ← comprehension (.DictComp kx vx [⟨tg, iter, ifs, 0⟩] scope pos) scope X.env (firstIterPos [⟨tg, iter, ifs, 0⟩] pos) newDict false (eval iter X.env) (some (assign (.Name y py) X.env))) _ _ s
  have h : tDc wi g tt tk tv (own.map (·.2)) σ H (fun x H1 => gName i x σ H1 D.nx) := h
  refine wpAny_bind (thn (dc_core (Qf := fun _ s' => SP X pins D .next s') hc hN I hi ok hg ht hk he hs h fun L C s' m H' I' q hn f => ?_) fun _ s' hq => wpAny_pure (wpAny_pure hq))
  show wpAny _ _ (assign (.Name y py) X.env (.ref L)) _ _ _
  refine wpAny_assign_Name (store_ok2 (v := V.ref L) I' hN hy (.inl hyl) rfl (fun s2 I2 ⟨a, sb, ha⟩ => ?_) (.inr hyl))
  obtain ⟨f0, f1, f2, f3, f4, f5⟩ := f
  have haC : C ≠ a := by
    rcases ha with z | z
    · rw [z]; exact f1
    · exact fun e => f4 y a z e.symm
  refine ⟨m, hn.sameBut sb haC, fun h3 sb3 => ?_⟩
  exact ⟨_, H', I2.turned (t' := s2.toks) (fun b o hb e => (sb3.2 b hb).trans e) f0 f1 f3 f4 f5, q⟩
end Mi

set_option Elab.async false
set_option linter.all false
set_option maxRecDepth 100000
set_option maxHeartbeats 4000000
namespace Mi
open PySem PySem.Spec PyProof.Rows L2
/-! ### dicts, read by hand -/
section
variable {k : EV → St → Prop} {kx : BX → St → Prop} {kf : Fl → St → Prop} {e : Kv.Er → St → Prop} {st : St} {ma mb mc mv mo mi : M EV}
theorem ex_sm {α : Type} {a : α} {P : α → Prop} : (∃ x, some a = some x ∧ P x) = P a := propext ⟨fun ⟨_, e, h⟩ => by cases e; exact h, fun h => ⟨_, rfl, h⟩⟩
theorem ex_nn {α : Type} {P : α → Prop} : (∃ x, (none : Option α) = some x ∧ P x) = False := propext ⟨fun ⟨_, e, _⟩ => (by cases e), fun h => h.elim⟩
theorem rp_dget : Rp (mDGet ma mb st) k e = Rp (ma st) (fun a st1 => Rp (mb st1) (fun b st2 => ∃ kvs, rdct st2 a = some kvs ∧ ∃ q, keyE b = some q ∧ ∃ d, dVal kvs q = some d ∧ k (.dat d) st2) e) e := by
  unfold mDGet
  rw [rp_bind]
  congr 1
  funext a st1
  rw [rp_bind]
  congr 1
  funext b st2
  cases h1 : rdct st2 a with
  | none => rw [ex_nn]; rfl
  | some kvs =>
    rw [ex_sm]
    cases h2 : keyE b with
    | none => rw [ex_nn]; rfl
    | some q =>
      rw [ex_sm]
      dsimp only
      cases h3 : dVal kvs q with
      | none => rw [ex_nn]; rfl
      | some d => rw [ex_sm]; rfl
theorem rp_din {neg : Bool} : Rp (mDIn neg mb ma st) k e = Rp (mb st) (fun b st1 => Rp (ma st1) (fun a st2 => ∃ kvs, rdct st2 a = some kvs ∧ ∃ q, keyE b = some q ∧ k (.dat (.bl (if neg then !(dVal kvs q).isSome else (dVal kvs q).isSome))) st2) e) e := by
  unfold mDIn
  rw [rp_bind]
  congr 1
  funext b st1
  rw [rp_bind]
  congr 1
  funext a st2
  cases h1 : rdct st2 a with
  | none => rw [ex_nn]; rfl
  | some kvs =>
    rw [ex_sm]
    cases h2 : keyE b with
    | none => rw [ex_nn]; rfl
    | some q => rw [ex_sm]; rfl
theorem rp_dget1 : Rp (mDGet1 ma mb st) k e = Rp (ma st) (fun a st1 => ∃ kvs0, rdct st1 a = some kvs0 ∧ Rp (mb st1) (fun b st2 => ∃ kvs, rdct st2 a = some kvs ∧ ∃ q, keyE b = some q ∧ k (.dat ((dVal kvs q).getD .non)) st2) e) e := by
  unfold mDGet1
  rw [rp_bind]
  congr 1
  funext a st1
  cases h0 : rdct st1 a with
  | none => rw [ex_nn]; rfl
  | some kvs0 =>
    rw [ex_sm]
    dsimp only
    rw [rp_bind]
    congr 1
    funext b st2
    cases h1 : rdct st2 a with
    | none => rw [ex_nn]; rfl
    | some kvs =>
      rw [ex_sm]
      cases h2 : keyE b with
      | none => rw [ex_nn]; rfl
      | some q => rw [ex_sm]; rfl
theorem rp_dget2 : Rp (mDGet2 ma mb mc st) k e = Rp (ma st) (fun a st1 => ∃ kvs0, rdct st1 a = some kvs0 ∧ Rp (mb st1) (fun b st2 => Rp (mc st2) (fun c st3 => ∃ kvs, rdct st3 a = some kvs ∧ ∃ q, keyE b = some q ∧ ∃ x, c = .dat x ∧ k (.dat ((dVal kvs q).getD x)) st3) e) e) e := by
  unfold mDGet2
  rw [rp_bind]
  congr 1
  funext a st1
  cases h0 : rdct st1 a with
  | none => rw [ex_nn]; rfl
  | some kvs0 =>
    rw [ex_sm]
    dsimp only
    rw [rp_bind]
    congr 1
    funext b st2
    rw [rp_bind]
    congr 1
    funext c st3
    cases h1 : rdct st3 a with
    | none => rw [ex_nn]; rfl
    | some kvs =>
      rw [ex_sm]
      cases h2 : keyE b with
      | none => rw [ex_nn]; rfl
      | some q => rw [ex_sm]; cases c <;> simp [Rp]
theorem rp_setK {α : Type} {st : St} {a : EV} {b : BX} {f : St → R α} {kk : α → St → Prop} : Rp ((match setH st a b with
    | some st1 => f st1
    | none => .stuck : R α)) kk e = ∃ st1, setH st a b = some st1 ∧ Rp (f st1) kk e := by
  cases h : setH st a b with
  | none => rw [ex_nn]; rfl
  | some st1 => rw [ex_sm]
theorem rp_dput : Rp (mDPut mo mi mv st) kf e = Rp (mv st) (fun ev st1 => Rp (toD ev st1) (fun d st2 => Rp (mo st2) (fun o st3 => Rp (mi st3) (fun i st4 => ∃ kvs, ownB st4 o = some (.dct kvs) ∧ ∃ q, keyE i = some q ∧ kvs.length < sizeLine ∧ ∃ st5, setH st4 o (.dct (dPut kvs q d)) = some st5 ∧ kf .nx st5) e) e) e) e := by
  unfold mDPut
  simp only [rp_bind]
  congr 1
  funext ev st1
  congr 1
  funext d st2
  congr 1
  funext o st3
  congr 1
  funext i st4
  split
  · rename_i kvs q h1 h2
    rw [h1, h2]
    simp only [Option.some.injEq, BX.dct.injEq, exists_eq_left']
    split
    · rename_i h3
      simp only [h3, true_and]
      cases h : setH st4 o (.dct (dPut kvs q d)) with
      | none => rw [ex_nn]; rfl
      | some st5 => rw [ex_sm]; rfl
    · rename_i h3
      simp [h3, Rp]
  · rename_i h
    simp only [Rp, eq_iff_iff, false_iff]
    rintro ⟨kvs, e1, q, e2, _⟩
    exact h kvs q e1 e2
theorem rp_daug {g : D → D → Option D} : Rp (mDAug g mo mi mv st) kf e = Rp (mo st) (fun o st1 => Rp (mi st1) (fun i st2 => ∃ kvs, rdct st2 o = some kvs ∧ ∃ q, keyE i = some q ∧ ∃ x, dVal kvs q = some x ∧ Rp (mv st2) (fun b st3 => ∃ y, b = .dat y ∧ ∃ z, g x y = some z ∧ ∃ kvs', ownB st3 o = some (.dct kvs') ∧ kvs'.length < sizeLine ∧ ∃ st4, setH st3 o (.dct (dPut kvs' q z)) = some st4 ∧ kf .nx st4) e) e) e := by
  unfold mDAug
  rw [rp_bind]
  congr 1
  funext o st1
  rw [rp_bind]
  congr 1
  funext i st2
  cases h1 : rdct st2 o with
  | none => rw [ex_nn]; rfl
  | some kvs =>
    rw [ex_sm]
    cases h2 : keyE i with
    | none => rw [ex_nn]; rfl
    | some q =>
      rw [ex_sm]
      dsimp only
      cases h3 : dVal kvs q with
      | none => rw [ex_nn]; rfl
      | some x =>
        rw [ex_sm]
        dsimp only
        rw [rp_bind]
        congr 1
        funext b st3
        cases b with
        | dat y =>
          simp only [EV.dat.injEq, exists_eq_left']
          cases h4 : g x y with
          | none => rw [ex_nn]; rfl
          | some z =>
            rw [ex_sm]
            dsimp only
            split
            · rename_i kvs' h5
              rw [h5]
              simp only [Option.some.injEq, BX.dct.injEq, exists_eq_left']
              split
              · rename_i h6
                simp only [h6, true_and]
                cases h : setH st3 o (.dct (dPut kvs' q z)) with
                | none => rw [ex_nn]; rfl
                | some st5 => rw [ex_sm]; rfl
              · rename_i h6
                simp [h6, Rp]
            · rename_i h5
              simp only [Rp, eq_iff_iff, false_iff]
              rintro ⟨kvs', e1, _⟩
              exact h5 kvs' e1
        | _ => simp [Rp]
theorem rp_dnew : Rp (mDNew st) kx e = kx (.dct []) st := rfl
theorem rp_dlen : Rp (mDLen ma st) k e = Rp (ma st) (fun a st1 => ∃ kvs, ownB st1 a = some (.dct kvs) ∧ k (.dat (.int kvs.length)) st1) e := by
  unfold mDLen
  rw [rp_bind]
  congr 1
  funext a st1
  split
  · rename_i kvs h; rw [h]; simp [Rp]
  · rename_i h
    simp only [Rp, eq_iff_iff, false_iff]
    rintro ⟨kvs, e1, _⟩
    exact h kvs e1
theorem rp_dlist : Rp (mDList ma st) kx e = Rp (ma st) (fun a st1 => ∃ kvs, ownB st1 a = some (.dct kvs) ∧ kx (.lst (kvs.map fun kv => dK kv.1)) st1) e := by
  unfold mDList
  rw [rp_bind]
  congr 1
  funext a st1
  split
  · rename_i kvs h; rw [h]; simp [Rp]
  · rename_i h
    simp only [Rp, eq_iff_iff, false_iff]
    rintro ⟨kvs, e1, _⟩
    exact h kvs e1
theorem rp_dcopy : Rp (mDCopy ma st) kx e = Rp (ma st) (fun a st1 => ∃ kvs, rdct st1 a = some kvs ∧ kx (.dct kvs) st1) e := by
  unfold mDCopy
  rw [rp_bind]
  congr 1
  funext a st1
  cases h : rdct st1 a with
  | none => rw [ex_nn]; rfl
  | some kvs => rw [ex_sm]; rfl
/-- a lock: the dict at j; the body; the dict again -/
theorem rp_lock {α : Type} {me : M EV} {body : M α} {kk : α → St → Prop} {j : Nat} {kvs : List (Key × D)} {st0 : St} (h1 : me st = .ok (.dat (.ob j)) st0) (h2 : st.S[j]? = some (.bx (.dct kvs)))
    (h : Rp (body { st with S := st.S.set j (.bx (.fz kvs)) }) (fun a st3 => ∃ kvs', st3.S[j]? = some (.bx (.fz kvs')) ∧ kk a { st3 with S := st3.S.set j (.bx (.dct kvs')) }) e) : Rp (lockM me body st) kk e := by
  unfold lockM
  rw [h1]
  dsimp only
  rw [h2]
  dsimp only
  rw [rp_bind]
  refine rp_imp h (fun a st3 g => ?_) (fun _ _ z => z)
  obtain ⟨kvs', e1, g⟩ := g
  unfold unlR
  rw [e1]
  exact g
/-- the walk over its keys -/
theorem rp_keys {mg : EV → M Unit} {m1 : M Fl} {j : Nat} {kvs : List (Key × D)} {st0 : St} (I : List (Key × D) → St → Prop) (h1 : ma st = .ok (.dat (.ob j)) st0) (h2 : st0.S[j]? = some (.bx (.fz kvs))) (h0 : I kvs st0)
    (hs : ∀ q d r st, I ((q, d) :: r) st → Rp (mg (.dat (dK q)) st) (fun _ st1 => Rp (m1 st1) (LpEnd (I r) kf) e) e) (hd : ∀ st, I [] st → kf .nx st) : Rp (mFor (mIKeys ma) mg m1 st) kf e := by
  unfold mFor mIKeys
  rw [h1]
  show Rp ((match st0.S[j]? with
    | some (.bx (.fz kvs)) => R.ok ⟨kvs.map fun kv => dK kv.1, fun _ => True⟩ st0
    | _ => .stuck : R Itr).bind _) kf e
  rw [h2]
  show Rp (forL _ _ _ (kvs.map fun kv => dK kv.1) st0) kf e
  refine rp_forR (fun ds st => ∃ r, ds = r.map (fun kv : Key × D => dK kv.1) ∧ I r st) (fun _ _ _ => trivial) (fun d r st g => ?_) (fun st g => ?_) _ st0 ⟨kvs, rfl, h0⟩
  · obtain ⟨l, e1, g⟩ := g
    cases l with
    | nil => cases e1
    | cons c l =>
      obtain ⟨q, x⟩ := c
      rw [List.map_cons] at e1
      cases e1
      refine rp_imp (hs q x l st g) (fun _ st1 g => ?_) (fun _ _ z => z)
      refine rp_imp g (fun f st2 g => ?_) (fun _ _ z => z)
      cases f with
      | nx => exact ⟨l, rfl, g⟩
      | cont => exact ⟨l, rfl, g⟩
      | brk => exact g
      | ret ev => exact g
  · obtain ⟨l, e1, g⟩ := g
    cases l with
    | nil => exact hd st g
    | cons c l => cases e1
end
theorem keyE_int {i : Int} : keyE (.dat (.int i)) = some (.inl i) := rfl
theorem keyE_str {i : Str} : keyE (.dat (.str i)) = some (.inr i) := rfl
/-! ### what stands at a place -/
theorem ownB_ob {st : St} {j : Nat} {b : BX} (h : st.S[j]? = some (.bx b)) : ownB st (.dat (.ob j)) = some b := by
  unfold ownB
  dsimp only
  rw [h]
theorem rdct_ob {st : St} {j : Nat} {kvs : List (Key × D)} (h : st.S[j]? = some (.bx (.dct kvs))) : rdct st (.dat (.ob j)) = some kvs := by
  unfold rdct
  rw [ownB_ob h]
theorem rdct_fz {st : St} {j : Nat} {kvs : List (Key × D)} (h : st.S[j]? = some (.bx (.fz kvs))) : rdct st (.dat (.ob j)) = some kvs := by
  unfold rdct
  rw [ownB_ob h]
theorem setH_ob {st : St} {j : Nat} {b : BX} : setH st (.dat (.ob j)) b = some { st with S := st.S.set j (.bx b) } := rfl
section
variable {S r : List Ob} {i j : Nat} {o o' : Ob}
theorem s_eq (h : S[i]? = some o) : (S.set i o')[i]? = some o' := by
  rw [List.getElem?_set_self (List.getElem?_eq_some_iff.mp h).1]
theorem s_ne (n : i ≠ j) (h : S[j]? = some o) : (S.set i o')[j]? = some o := by rw [List.getElem?_set_ne n]; exact h
theorem s_app (h : S[i]? = some o) : (S ++ r)[i]? = some o := by rw [List.getElem?_append_left (List.getElem?_eq_some_iff.mp h).1]; exact h
theorem s_new : (S ++ o :: r)[S.length]? = some o := by rw [List.getElem?_append_right (Nat.le_refl _), Nat.sub_self]; rfl
theorem s_set_app (h : S[i]? = some o) : (S ++ r).set i o' = S.set i o' ++ r := by rw [List.set_append_left _ _ (List.getElem?_eq_some_iff.mp h).1]
theorem s_set_new : (S ++ o :: r).set S.length o' = S ++ o' :: r := by rw [List.set_append_right _ _ (Nat.le_refl _), Nat.sub_self]; rfl
theorem s_lt (h : S[i]? = some o) : i < S.length := (List.getElem?_eq_some_iff.mp h).1
theorem s_nel (h : S[i]? = some o) : i ≠ S.length := Nat.ne_of_lt (s_lt h)
end
/-! ### a table of what stands at keys -/
theorem dVal_nil {k : Key} : dVal [] k = none := rfl
theorem dVal_cons {k q : Key} {d : D} {r : List (Key × D)} : dVal ((k, d) :: r) q = if k = q then some d else dVal r q := by
  unfold dVal
  rw [List.find?_cons]
  by_cases c : k = q
  · simp [c]
  · simp [c]
theorem any_dVal (q : Key) : ∀ kvs : List (Key × D), (kvs.any fun kv => decide (kv.1 = q)) = (dVal kvs q).isSome
  | [] => rfl
  | (k, d) :: r => by
    rw [List.any_cons, dVal_cons, any_dVal q r]
    by_cases c : k = q <;> simp [c]
theorem dPut_none {kvs : List (Key × D)} {q : Key} {d : D} (h : dVal kvs q = none) : dPut kvs q d = kvs ++ [(q, d)] := by
  unfold dPut
  rw [any_dVal, h]
  rfl
theorem dPut_some {kvs : List (Key × D)} {q : Key} {d x : D} (h : dVal kvs q = some x) : dPut kvs q d = kvs.map fun kv => if kv.1 = q then (kv.1, d) else kv := by
  unfold dPut
  rw [any_dVal, h]
  rfl
theorem dVal_app {q p : Key} {d : D} : ∀ {kvs : List (Key × D)}, dVal kvs q = none → dVal (kvs ++ [(q, d)]) p = if q = p then some d else dVal kvs p
  | [], _ => by rw [List.nil_append, dVal_cons]
  | (k, x) :: r, h => by
    rw [dVal_cons] at h
    by_cases c : k = q
    · rw [if_pos c] at h; cases h
    · rw [if_neg c] at h
      rw [List.cons_append, dVal_cons, dVal_cons, dVal_app h]
      by_cases c2 : k = p
      · have : q ≠ p := fun z => c (c2.trans z.symm)
        rw [if_pos c2, if_neg this, if_pos c2]
      · rw [if_neg c2, if_neg c2]
theorem dVal_repl {q p : Key} {d : D} : ∀ {kvs : List (Key × D)}, dVal (kvs.map fun kv => if kv.1 = q then (kv.1, d) else kv) p = if q = p then (dVal kvs p).map (fun _ => d) else dVal kvs p
  | [] => by simp [dVal_nil]
  | (k, x) :: r => by
    rw [List.map_cons]
    have ih := dVal_repl (q := q) (p := p) (d := d) (kvs := r)
    by_cases c : k = q
    · simp only [c, if_true, dVal_cons]
      by_cases c2 : q = p
      · simp [c2]
      · rw [if_neg c2, if_neg c2, ih, if_neg c2, if_neg c2]
    · simp only [c, if_false, dVal_cons]
      by_cases c2 : k = p
      · have : q ≠ p := fun z => c (c2.trans z.symm)
        simp [c2, this]
      · rw [if_neg c2, if_neg c2, ih]
theorem dVal_put {kvs : List (Key × D)} {q p : Key} {d : D} : dVal (dPut kvs q d) p = if q = p then some d else dVal kvs p := by
  cases h : dVal kvs q with
  | none => rw [dPut_none h, dVal_app h]
  | some x =>
    rw [dPut_some h, dVal_repl]
    by_cases c : q = p
    · rw [if_pos c, if_pos c, ← c, h]; rfl
    · rw [if_neg c, if_neg c]
/-! ### xs.pop(), xs.pop(i) -/
section
variable {K : Frag} {cl : (Str → Addr) × Addr × Bool} {E : Kv.Er → L2.St → Hp → Prop} {W : Wd} {σ : L2.St} {H : Hp} {ta : TE} {ma : M EV}
theorem sE_mut0 {r : V → List V → Hp → VK → Prop} {f : List D → List D → Option (List D × D)} (hr : PkMut K r f) (ha : SimE K cl E ta ma) : SimE K cl E (tBM0 K "list" r ta) (mMut f ma (M.pure [])) := by
  have := sE_mut (K := K) (cl := cl) (E := E) (r := r) (f := f) (t := tNil) (mt := M.pure []) hr ha sA_nil
  exact this
def fPop (xs ys : List D) : Option (List D × D) := match ys, xs[xs.length - 1]? with
  | [], some d => some (xs.dropLast, d)
  | _, _ => none
theorem RepL.dropLast {F : Hp} {ρ : List Addr} : ∀ {vs : List V} {ds : List D}, RepL K F ρ vs ds → RepL K F ρ vs.dropLast ds.dropLast
  | _, _, .nil => .nil
  | _, _, .cons _ .nil => .nil
  | _, _, .cons r (.cons q t) => .cons r (RepL.dropLast (.cons q t))
theorem RepL.eraseIdx {F : Hp} {ρ : List Addr} : ∀ {vs : List V} {ds : List D} (n : Nat), RepL K F ρ vs ds → RepL K F ρ (vs.eraseIdx n) (ds.eraseIdx n)
  | _, _, _, .nil => .nil
  | _, _, 0, .cons _ t => t
  | _, _, n + 1, .cons r t => .cons r (RepL.eraseIdx n t)
theorem pk_pop : PkMut K rPop fPop := by
  intro W H p vs xs us ys zs d s h r ru e
  unfold fPop at e
  split at e
  · rename_i d' _ hx
    cases e
    cases ru
    obtain ⟨v, hv, rv⟩ := r.get hx
    exact ⟨_, v, r.dropLast, rv, fun Q q => ⟨p, vs, v, rfl, rfl, h, by rw [r.len]; exact hv, q⟩⟩
  · cases e
def fPopAt (xs ys : List D) : Option (List D × D) := match ys with
  | [.int i] => match seqIndex? i xs.length with
    | some k => match xs[k]? with
      | some d => if -(2 ^ 63) ≤ i ∧ i < 2 ^ 63 then some (xs.eraseIdx k, d) else none
      | none => none
    | none => none
  | _ => none
theorem pk_popAt : PkMut K rPopAt fPopAt := by
  intro W H p vs xs us ys zs d s h r ru e
  unfold fPopAt at e
  split at e
  rotate_left
  · cases e
  rename_i i
  split at e
  rotate_left
  · cases e
  rename_i k hk
  split at e
  rotate_left
  · cases e
  rename_i d' hx
  split at e
  rotate_left
  · cases e
  rename_i hb
  cases e
  obtain ⟨v, hv, rv⟩ := r.get hx
  cases ru with
  | cons h1 t =>
    cases t
    cases h1
    exact ⟨_, v, r.eraseIdx k, rv, fun Q q => ⟨p, vs, i, k, v, rfl, rfl, h, hb.1, hb.2, by rw [r.len]; exact hk, hv, q⟩⟩
end
/-! ### xs.index(y), t.index(y) -/
section
variable {K : Frag} {cl : (Str → Addr) × Addr × Bool} {E : Kv.Er → L2.St → Hp → Prop} {W : Wd} {σ : L2.St} {H : Hp} {ta tb tc : TE} {ma mb mc : M EV}
def fIdxL (x y : D) : Option D := match x with
  | .lst ds => match scV y, scL ds with
    | some v, some vs => if flatV v = true ∧ vs.all flatV = true then (vs.findIdx? fun z => eqV z v).map fun j => .int (j : Nat) else none
    | _, _ => none
  | _ => none
def fIdxT (x y : D) : Option D := match x, y with
  | .tup ds, .str z => match strsD ds with
    | some ys => (ys.findIdx? fun w => decide (w = z)).map fun j => .int (j : Nat)
    | none => none
  | _, _ => none
def mIdxL (ma mb : M EV) : M EV := fun st => (ma st).bind fun a st1 => match peek st1 a with
  | some (.lst _) => (mb st1).bind fun b st2 => match peek st2 a, b with
    | some x, .dat y => match fIdxL x y with
      | some d => .ok (.dat d) st2
      | none => .stuck
    | _, _ => .stuck
  | _ => .stuck
def mIdxT (ma mb : M EV) : M EV := fun st => (ma st).bind fun a st1 => match a with
  | .dat (.tup ds) => (mb st1).bind fun b st2 => match b with
    | .dat y => match fIdxT (.tup ds) y with
      | some d => .ok (.dat d) st2
      | none => .stuck
    | _ => .stuck
  | _ => .stuck
theorem sE_idxL (ha : SimE K cl E ta ma) (hb : SimE K cl E tb mb) : SimE K cl E (tBM K "list" (rIndex K) ta (tCons tb tNil)) (mIdxL ma mb) := by
  intro W σ H st I Q q
  refine ha W σ H st I _ (Res.imp (Res.bind q) fun a st1 W1 H1 _ I1 x1 q1 va ka => ?_)
  split at q1
  rotate_left
  · exact q1.elim
  rename_i ds0 e0
  obtain ⟨p, us0, rfl, hq0, r0⟩ := peek_ok I1 ka e0
  refine ⟨.inl ⟨rfl, _, hq0⟩, hb W1 σ H1 st1 I1 _ (Res.imp (Res.bind q1) fun b st2 W2 H2 _ I2 x2 q2 vb kb => ?_)⟩
  split at q2
  rotate_left
  · exact q2.elim
  rename_i x y e1 _
  split at q2
  rotate_left
  · exact q2.elim
  rename_i d e2
  unfold fIdxL at e2
  split at e2
  rotate_left
  · cases e2
  rename_i ds
  obtain ⟨p', us, ep, hq, r⟩ := peek_ok I2 (ka.ext x2) e1
  cases ep
  split at e2
  rotate_left
  · cases e2
  rename_i v vs ev evs
  split at e2
  rotate_left
  · cases e2
  rename_i hf
  cases ej : vs.findIdx? fun z => eqV z v with
  | none => rw [ej] at e2; cases e2
  | some j =>
    rw [ej] at e2
    cases e2
    have hus := scL_rep evs r
    subst hus
    rw [scV_rep ev kb]
    obtain ⟨hj, hz, hn⟩ := List.findIdx?_eq_some_iff_getElem.mp ej
    refine ⟨p, us, v, j, us[j], rfl, rfl, hq, hf.1, hf.2, List.getElem?_eq_getElem hj, hz, fun m z' hm ez => ?_, q2.now I2 _ (.int _)⟩
    have := hn m hm
    rw [List.getElem?_eq_getElem (by omega)] at ez
    cases ez
    simpa using this
theorem sE_idxC {a : Addr} {ds : List D} {ys : List Str} (hk : ∃ o, K.lookup a = some o ∧ o.cls = .type "tuple" ∧ o.dict = none) (h : ∀ F : Hp, SqT K F a (ys.map V.str)) (hd : ds = ys.map D.str) (hb : SimE K cl E tb mb) : SimE K cl E (tBM K "tuple" (fun x xs H Q => ∃ p, ∃ ys : List Str, ∃ z j, x = .ref p ∧ xs = [.str z] ∧ SqT K H p (ys.map V.str) ∧ ys[j]? = some z ∧ (∀ m, m < j → ys[m]? ≠ some z) ∧ Q (.int (j : Nat)) H) (tC (.ref a)) (tCons tb tNil)) (mIdxT (mC (.tup ds)) mb) := by
  subst hd
  intro W σ H st I Q q
  have q : Res K cl E W σ H ((mb st).bind fun b st2 => (match b with
    | EV.dat y => match fIdxT (.tup (ys.map D.str)) y with
      | some d => R.ok (EV.dat d) st2
      | none => R.stuck
    | _ => R.stuck : R EV)) (fun ev _ W' H' => ∀ v, EvOk K W' H' σ v ev → Q v H') := q
  refine ⟨.inr (.inl ⟨rfl, hk⟩), hb W σ H st I _ (Res.imp (Res.bind q) fun b st2 W2 H2 _ I2 x2 q2 vb kb => ?_)⟩
  split at q2
  rotate_left
  · exact q2.elim
  rename_i y
  split at q2
  rotate_left
  · exact q2.elim
  rename_i d e2
  unfold fIdxT at e2
  split at e2
  rotate_left
  · cases e2
  rename_i ds z eds
  cases eds
  rw [strsD_map] at e2
  dsimp only at e2
  cases ej : ys.findIdx? fun w => decide (w = z) with
  | none => rw [ej] at e2; cases e2
  | some j =>
    rw [ej] at e2
    cases e2
    cases kb
    obtain ⟨hj, hz, hn⟩ := List.findIdx?_eq_some_iff_getElem.mp ej
    refine ⟨a, ys, z, j, rfl, rfl, h _, ?_, fun m hm ez => ?_, q2.now I2 _ (.int _)⟩
    · rw [List.getElem?_eq_getElem hj]; exact congrArg some (by simpa using hz)
    · have := hn m hm
      rw [List.getElem?_eq_getElem (by omega)] at ez
      cases ez
      simp at this
end
section
variable {k : EV → St → Prop} {e : Kv.Er → St → Prop} {st : St} {ma mb : M EV}
theorem rp_idxL : Rp (mIdxL ma mb st) k e = Rp (ma st) (fun a st1 => ∃ ds, peek st1 a = some (.lst ds) ∧ Rp (mb st1) (fun b st2 => ∃ x, peek st2 a = some x ∧ ∃ y, b = .dat y ∧ ∃ d, fIdxL x y = some d ∧ k (.dat d) st2) e) e := by
  unfold mIdxL
  rw [rp_bind]
  congr 1
  funext a st1
  split
  · rename_i ds h
    rw [h, rp_bind]
    simp only [Option.some.injEq, D.lst.injEq, exists_eq_left']
    congr 1
    funext b st2
    cases h1 : peek st2 a with
    | none => rw [ex_nn]; rfl
    | some x =>
      rw [ex_sm]
      cases b with
      | dat y =>
        simp only [EV.dat.injEq, exists_eq_left']
        cases h2 : fIdxL x y with
        | none => rw [ex_nn]; rfl
        | some d => rw [ex_sm]; rfl
      | _ => simp [Rp]
  · rename_i h
    simp only [Rp, eq_iff_iff, false_iff]
    rintro ⟨ds, e1, _⟩
    exact h ds e1
theorem rp_idxT : Rp (mIdxT ma mb st) k e = Rp (ma st) (fun a st1 => ∃ ds, a = .dat (.tup ds) ∧ Rp (mb st1) (fun b st2 => ∃ y, b = .dat y ∧ ∃ d, fIdxT (.tup ds) y = some d ∧ k (.dat d) st2) e) e := by
  unfold mIdxT
  rw [rp_bind]
  congr 1
  funext a st1
  split
  · rename_i ds
    rw [rp_bind]
    simp only [EV.dat.injEq, D.tup.injEq, exists_eq_left']
    congr 1
    funext b st2
    cases b with
    | dat y =>
      simp only [EV.dat.injEq, exists_eq_left']
      cases h2 : fIdxT (.tup ds) y with
      | none => rw [ex_nn]; rfl
      | some d => rw [ex_sm]; rfl
    | _ => simp [Rp]
  · rename_i h
    simp only [Rp, eq_iff_iff, false_iff]
    rintro ⟨ds, e1, _⟩
    exact h ds e1
end
end Mi

set_option Elab.async false
set_option linter.all false
set_option maxRecDepth 100000
set_option maxHeartbeats 4000000
namespace Mi
open PySem PySem.Spec PyProof.Rows L2
/-! ### a def that is handed the error which a suite holds, and tells its class as a text -/
section
variable {P : Program} {w : World} {K : Frag} {mg : Str → Option Value} {base : Heap}
structure ClassOk (P : Program) (w : World) (K : Frag) (mg : Str → Option Value) (base : Heap) (T : Kv.Errs K mg) (lv : Nat) (f : Addr) (fd : FuncData) (pn : Str := "error") : Prop where
  run : ∀ (A : Around) (outer : List Env) (s : Shared) (H : Hp) (args : Args) (us : List Value) (Q : VK) (p : Addr × Obj) (er : Kv.Er), L2H.RoomH lv A → L2H.PinOk outer H s p → Zc (.ref (T.exa er)) none p.2 → (∃ vs, p.2.data = .fields vs) →
    Env0 P w K mg base A outer s H → BindsTo s fd args (([pn] : List Str).zip us) → Vals [.ref p.1] us → (∀ q, H q = none → Q (.str er.nm) (upd H q (.lst [.str er.nm]))) →
    codeAny (model P w) A (.call (.ref f) args) (CR CX0 outer P w H s Q E0) s
theorem class_of {nm pn : Str} {T : Kv.Errs K mg} {lv : Nat} {f : Addr} {fd : FuncData} {st : Stmt} {N : List Str} (F : Fun K nm nm st f fd) (S : FnScope N [pn] (defScope st))
    (hb : ∀ (cdv : Value) (A : Around) (outer : List Env) (s : Shared) (H : Hp) (Q : VK) (p : Addr × Obj) (er : Kv.Er), Zc (.ref (T.exa er)) none p.2 → (∃ vs, p.2.data = .fields vs) → (∀ q, H q = none → Q (.str er.nm) (upd H q (.lst [.str er.nm]))) →
      ∃ t, PSs (L2H.cxH CX0 P w K mg base N nm (defScope st) f cdv A outer s H E0 p) (defBody st) t ∧ t { nx := fun _ H' => Q .non H', rt := Q } (start N [.ref p.1]) H) :
    ClassOk P w K mg base T (lv + 1) f fd pn := by
  obtain ⟨oc, od, kV, doc, pm, an, cdv, ct, osl, rfl, lk, hcd⟩ := F.ex
  refine ⟨fun A outer s H args us Q p er hr hpin hz hf e0 hbi r hk => ?_⟩
  have KX : K.In s.heap := e0.mod.kin.keeps fun b o e => (e0.bs b o e).1
  have lim : s.heap.NoLimit := e0.mod.nolimit.keeps fun b o e => (e0.bs b o e).1
  have kinds : ∀ y ∈ ([pn] : List Str).zip us, (defScope st).names.lookup y.1 = some .local ∨ ((defScope st).names.lookup y.1 = some .cell ∧ ((cellsFrom (s.heap.objs.size + 1) (defScope st).names []).lookup y.1).isSome = true) := by
    intro ⟨n, v⟩ hy
    rcases S.par n (List.of_mem_zip hy).1 with z | z
    · exact .inl z
    · exact .inr ⟨z, PySem.W.cellsFrom_some _ _ _ (.inl z)⟩
  refine codeAny_call_function hr.depth (KX _ _ lk) rfl S.co S.gen rfl (PySem.W.codeRec_of KX hcd) (hbi _ _ _ _ ?_)
  refine wpAny_newFunctionEnv_cells S.kind kinds fun env he s1 x => ?_
  subst he
  refine ⟨lim.keeps x.toInCall.keep, codeAny_func ?_⟩
  obtain ⟨t, ht, hq⟩ := hb cdv A outer s H Q p er hz hf hk
  have I := L2H.inv_startH (CX := CX0) (E := E0) S hpin e0 (show ([.ref p.1] : List V).length = ([pn] : List Str).length from rfl) r x
  refine wpAny_mono (ht.run [] s1 _ H _ I hq) (fun fl s' hs => ?_) fun e s' hs => hs
  have fin : ∀ {σ' : L2.St} {H' : Hp} {v : V} {u : Value}, L2.Inv _ [] σ' H' s' → RelV v u → Q v H' → CE outer P w H s Q u s' :=
    fun {σ' H' v u} (J : L2.Inv (L2H.cxH CX0 P w K mg base N nm (defScope st) f cdv A outer s H E0 p) [] σ' H' s') rv qq => ⟨v, H', J.os, J.bare, J.base, J.hok, rv, qq⟩
  cases fl with
  | next =>
    obtain ⟨σ', H', J, qq⟩ := hs
    exact fin (v := V.non) (u := Value.none) J rfl qq
  | ret u =>
    obtain ⟨v, σ', H', J, rv, qq⟩ := hs
    exact fin J rv qq
  | brk =>
    obtain ⟨_, _, _, qq⟩ := hs
    exact qq.elim
  | cont =>
    obtain ⟨_, _, _, qq⟩ := hs
    exact qq.elim
end
section
variable {X : Cx} {CX : CXT} {f : Addr} {fd : FuncData} {lv : Nat} {x : Str} {q pos : Pos} {e : Expr} {te : TE}
def tClass {K : Frag} {mg : Str → Option Value} (T : Kv.Errs K mg) (cls : Value) (d : Option Addr) (a : Addr) (ta : TA) : TE := fun σ H Q => ta σ H fun vs H1 => vs = [.ref a] ∧ d = none ∧ ∃ er, cls = .ref (T.exa er) ∧ ∀ r, H1 r = none → Q (.str er.nm) (upd H1 r (.lst [.str er.nm]))
theorem pe_class {pn : Str} {a : Addr} {oe : Obj} {cls : Value} {d : Option Addr} {P : Program} {w : World} {K : Frag} {mg : Str → Option Value} {base : Heap} {T : Kv.Errs K mg} {ta : TA} (F : ClassOk P w K mg base T lv f fd pn) (hz : Zc cls d oe) (hf : ∃ vs, oe.data = .fields vs) (hp : (a, oe) ∈ X.pn) (hr : L2H.RoomH lv X.A) (hg : Gl X x)
    (hm : X.mg x = some (.ref f)) (hk : PySem.W.keepIn K (.ref f) = true) (hb : Binds K fd [pn] []) (ha : PA X [e] ta) (hP : X.prog = P := by rfl) (hw : X.w = w := by rfl) (hK : X.K = K := by rfl) (hM : X.mg = mg := by rfl) (hB : X.base = base := by rfl) (hdb : (x == ("__debug__" : Str)) = false := by decide)
    (he : starEach (e :: []) X.env = (false, eval e X.env) :: starEach [] X.env := by rfl) (hpl : (backTo pos (starEach [] X.env)).any (·.1) = false := by rfl) :
    PE X (.Call (.Name x q) [e] [] pos) (tClass T cls d a ta) := by
  subst hP hw hK hM hB
  refine ⟨fun pins s σ H Q I h => ?_⟩
  refine wpAny_Call_Name_kw (ld_glob I hg hm ?_ hdb)
  refine PySem.W.callWith_K (h₀ := X.base) I.ok.mod.kin hk (thn (ha.run pos pins s σ H _ I h) fun us s1 ⟨vs, H1, I1, r, e1, e2, er, e3, k⟩ => ⟨I1.kIn, ?_⟩) he hpl
  subst e1 e2 e3
  have P1 := I1.pin (a, oe) (List.mem_append.mpr (.inl hp))
  have hl : us.length = 1 := r.length.symm
  have b := hb s1 us I1.kIn (by rw [List.append_nil]; exact hl)
  rw [List.append_nil] at b
  have hpin : L2H.PinOk X.stack H1 s1 (a, oe) := ⟨P1.1, P1.2.1, fun hm => (List.mem_cons.mp (I1.stkSub a hm)).elim P1.2.2.1 P1.2.2.2.1, P1.2.2.2.2⟩
  refine wpAny_call (codeAny_mono (F.run _ X.stack s1 H1 ⟨us, []⟩ us Q (a, oe) er hr hpin hz hf I1.env0 b r k) fun r' s' hq => ?_)
  cases r' with
  | error e => exact False.elim hq
  | ok fl =>
    cases fl with
    | ret u => exact I1.after hq
    | next => exact False.elim hq
    | brk => exact False.elim hq
    | cont => exact False.elim hq
end
section
variable {K : Frag} {E : Kv.Er → L2.St → Hp → Prop} {ta : TE} {ma : M EV}
def mClass (er : Kv.Er) (me : M EV) : M EV := fun st => (me st).bind fun ev st1 => match ev with
  | .exc => .ok (.dat (.str er.nm)) st1
  | _ => .stuck
theorem sE_class {mg : Str → Option Value} {T : Kv.Errs K mg} {c : Str → Addr} {a : Addr} {er : Kv.Er} (ha : SimE K (c, a, false) E ta ma) : SimE K (c, a, false) E (tClass T (.ref (T.exa er)) none a (tCons ta tNil)) (mClass er ma) := by
  intro W σ H st I Q q
  refine ha W σ H st I _ (Res.imp (Res.bind q) fun ev st1 W1 H1 hm1 I1 x1 q1 v k => ?_)
  split at q1
  · have k : v = .ref W1.xa.1 := k
    refine ⟨by rw [k, I1.xeq], rfl, er, rfl, fun r hr => ?_⟩
    exact q1 _ _ (I1.new0 hr) (Ext.new0 hr) _ (.str _)
  · exact q1.elim
theorem rp_class {er : Kv.Er} {st : St} {k : EV → St → Prop} {e : Kv.Er → St → Prop} : Rp (mClass er ma st) k e = Rp (ma st) (fun ev st1 => ev = .exc ∧ k (.dat (.str er.nm)) st1) e := by
  unfold mClass
  rw [rp_bind]
  congr 1
  funext ev st1
  cases ev <;> simp [Rp]
end
theorem rp_sqA {kf : Fl → St → Prop} {e : Kv.Er → St → Prop} {st : St} {m1 m2 : M Fl} (h : Rp (m1 st) (SqEnd (fun st1 => Rp (m2 st1) kf e) kf) e) : Rp (mSeq m1 m2 st) kf e := by rw [rp_sq]; exact h
theorem rp_isIf {kf : Fl → St → Prop} {e : Kv.Er → St → Prop} {st : St} {mt : M Bool} {ma mb m2 : M Fl} (h : Rp (mSeq (mIfS mt ma mb) m2 st) kf e) : Rp (mSeq (mIfS mt ma mb) m2 st) kf e := h
section
variable {N : St → Prop} {kf : Fl → St → Prop} {st : St} {ev : EV}
theorem sq_nx (h : N st) : SqEnd N kf .nx st := h
theorem sq_rt (h : kf (.ret ev) st) : SqEnd N kf (.ret ev) st := h
theorem sq_bk (h : kf .brk st) : SqEnd N kf .brk st := h
theorem sq_ct (h : kf .cont st) : SqEnd N kf .cont st := h
theorem lp_nx (h : N st) : LpEnd N kf .nx st := h
theorem lp_ct (h : N st) : LpEnd N kf .cont st := h
theorem lp_bk (h : kf .nx st) : LpEnd N kf .brk st := h
theorem lp_rt (h : kf (.ret ev) st) : LpEnd N kf (.ret ev) st := h
end
theorem is_ex {α : Sort _} {p : α → Prop} (h : ∃ x, p x) : ∃ x, p x := h
theorem is_and {p q : Prop} (h : p ∧ q) : p ∧ q := h
theorem is_ite {c : Prop} [Decidable c] {A B : Prop} (h : if c then A else B) : if c then A else B := h
theorem rp_id {α : Type} {r : R α} {k : α → St → Prop} {e : Kv.Er → St → Prop} (h : Rp r k e) : Rp r k e := h
/-! ### texts and numbers among some -/
theorem scL_strs : ∀ ys : List Str, scL (ys.map D.str) = some (ys.map V.str)
  | [] => rfl
  | y :: r => by rw [List.map_cons, scL, scL_strs r]; rfl
theorem scL_ints : ∀ ys : List Int, scL (ys.map D.int) = some (ys.map V.int)
  | [] => rfl
  | y :: r => by rw [List.map_cons, scL, scL_ints r]; rfl
theorem flat_strs : ∀ ys : List Str, (ys.map V.str).all flatV = true
  | [] => rfl
  | y :: r => by rw [List.map_cons, List.all_cons, flat_strs r]; rfl
theorem flat_ints : ∀ ys : List Int, (ys.map V.int).all flatV = true
  | [] => rfl
  | y :: r => by rw [List.map_cons, List.all_cons, flat_ints r]; rfl
theorem inV_strs (r : Str) : ∀ ys : List Str, inV (.str r) (ys.map V.str) = decide (r ∈ ys)
  | [] => by simp [inV]
  | y :: t => by
    have ih := inV_strs r t
    unfold inV at ih ⊢
    rw [List.map_cons, List.any_cons, ih]
    simp only [eqV, List.mem_cons]
    by_cases c : r = y
    · subst c; simp
    · have : (y == r) = false := by simpa using fun z => c z.symm
      simp [c, this]
theorem in_strsT (neg : Bool) (r : Str) (ys : List Str) : fIn neg (.str r) (.tup (ys.map D.str)) = some (.bl (if neg then !decide (r ∈ ys) else decide (r ∈ ys))) := by
  unfold fIn
  dsimp only [scV]
  rw [scL_strs]
  dsimp only
  rw [if_pos ⟨rfl, flat_strs ys⟩, inV_strs]
theorem in_strsL (neg : Bool) (r : Str) (ys : List Str) : fIn neg (.str r) (.lst (ys.map D.str)) = some (.bl (if neg then !decide (r ∈ ys) else decide (r ∈ ys))) := by
  unfold fIn
  dsimp only [scV]
  rw [scL_strs]
  dsimp only
  rw [if_pos ⟨rfl, flat_strs ys⟩, inV_strs]
theorem in_intsL (neg : Bool) (r : Int) (ys : List Int) : fIn neg (.int r) (.lst (ys.map D.int)) = some (.bl (if neg then !decide (r ∈ ys) else decide (r ∈ ys))) := by
  unfold fIn
  dsimp only [scV]
  rw [scL_ints]
  dsimp only
  rw [if_pos ⟨rfl, flat_ints ys⟩, Kv.inV_ints]
theorem idxT_strs (r : Str) (ys : List Str) {j : Nat} (h : ys.findIdx? (fun w => decide (w = r)) = some j) : fIdxT (.tup (ys.map D.str)) (.str r) = some (.int (j : Nat)) := by
  unfold fIdxT
  dsimp only
  rw [strsD_map]
  dsimp only
  rw [h]
  rfl
theorem idxL_strs (r : Str) (ys : List Str) {j : Nat} (h : ys.findIdx? (fun w => decide (w = r)) = some j) : fIdxL (.lst (ys.map D.str)) (.str r) = some (.int (j : Nat)) := by
  unfold fIdxL
  dsimp only [scV]
  rw [scL_strs]
  dsimp only
  rw [if_pos ⟨rfl, flat_strs ys⟩, List.findIdx?_map]
  have : ((fun z => eqV z (V.str r)) ∘ V.str) = fun w => decide (w = r) := by
    funext w
    show (w == r) = _
    rw [Bool.eq_iff_iff]
    simp
  rw [this, h]
  rfl
/-! ### a def by one equation, whatever its end -/
def EndR (X : RF) : Fl → St → Prop
  | .nx, st => X = .ok (.dat .non) st.io st.S
  | .ret (.dat d), st => X = .ok (.dat d) st.io st.S
  | .ret (.tp b), st => X = .ok (.new b) st.io st.S
  | .ret (.sl i), st => ∃ b, st.env[i]? = some (some (.own b)) ∧ X = .ok (.new b) st.io st.S
  | _, _ => False
def ErrR (X : RF) : Kv.Er → St → Prop := fun x st => X = .err x st.io st.S
theorem er_nx {X : RF} {st : St} : EndR X .nx st = (X = .ok (.dat .non) st.io st.S) := rfl
theorem er_rt {X : RF} {d : D} {st : St} : EndR X (.ret (.dat d)) st = (X = .ok (.dat d) st.io st.S) := rfl
theorem er_tp {X : RF} {b : BX} {st : St} : EndR X (.ret (.tp b)) st = (X = .ok (.new b) st.io st.S) := rfl
theorem er_sl {X : RF} {i : Nat} {st : St} : EndR X (.ret (.sl i)) st = ∃ b, st.env[i]? = some (some (.own b)) ∧ X = .ok (.new b) st.io st.S := rfl
theorem er_er {X : RF} {x : Kv.Er} {st : St} : ErrR X x st = (X = .err x st.io st.S) := rfl
theorem run_is {n : Nat} {ms : M Fl} {as : List AV} {io : List BX} {S : List Ob} {X : RF}
    (h : Rp (ms ⟨as.map (fun a => some a.sv) ++ List.replicate (n - as.length) none, io, S⟩) (EndR X) (ErrR X)) : runF n ms as io S = X := by
  unfold runF
  cases e : ms ⟨as.map (fun a => some a.sv) ++ List.replicate (n - as.length) none, io, S⟩ with
  | stuck => rw [e] at h; exact h.elim
  | err x st => rw [e] at h; exact (Eq.symm h)
  | ok f st =>
    rw [e] at h
    cases f with
    | nx => exact (Eq.symm h)
    | brk => exact h.elim
    | cont => exact h.elim
    | ret ev =>
      cases ev with
      | dat d => exact (Eq.symm h)
      | tp b => exact (Eq.symm h)
      | sl i =>
        obtain ⟨b, e1, h⟩ := h
        dsimp only
        rw [e1]
        exact (Eq.symm h)
      | _ => exact h.elim
theorem run_isN {n : Nat} {ms : M Fl} {as : List AV} {io : List BX} {S : List Ob} {X : RF}
    (h : Rp (ms ⟨as.map (fun a => some a.sv) ++ List.replicate (n - as.length) none, io, S⟩) (EndR X) (fun _ _ => False)) : noErrF (runF n ms) as io S = X := by
  have h2 := run_is (X := X) (rp_imp h (fun _ _ z => z) (fun _ _ z => z.elim))
  unfold noErrF
  rw [h2]
  cases X with
  | err x io' S' =>
    exfalso
    cases e : ms ⟨as.map (fun a => some a.sv) ++ List.replicate (n - as.length) none, io, S⟩ with
    | stuck => rw [e] at h; exact h.elim
    | err x st => rw [e] at h; exact h.elim
    | ok f st =>
      rw [e] at h
      cases f with
      | nx => cases h
      | brk => exact h.elim
      | cont => exact h.elim
      | ret ev =>
        cases ev with
        | dat d => cases h
        | tp b => cases h
        | sl i => obtain ⟨b, _, h⟩ := h; cases h
        | _ => exact h.elim
  | ok _ _ _ => rfl
  | stuck => rfl
/-- what a caller goes on with -/
def RpF (X : RF) (st : St) (kx : EV ⊕ BX → St → Prop) (e : Kv.Er → St → Prop) : Prop := match X with
  | .ok (.dat d) [] S' => kx (.inl (.dat d)) { st with S := S' }
  | .ok (.new b) [] S' => kx (.inr b) { st with S := S' }
  | .err x [] S' => e x { st with S := S' }
  | _ => False
section
variable {st : St} {kx : EV ⊕ BX → St → Prop} {e : Kv.Er → St → Prop}
theorem rpF_ok {d : D} {S' : List Ob} : RpF (.ok (.dat d) [] S') st kx e = kx (.inl (.dat d)) { st with S := S' } := rfl
theorem rpF_new {b : BX} {S' : List Ob} : RpF (.ok (.new b) [] S') st kx e = kx (.inr b) { st with S := S' } := rfl
theorem rpF_err {x : Kv.Er} {S' : List Ob} : RpF (.err x [] S') st kx e = e x { st with S := S' } := rfl
theorem rpF_ite {c : Prop} [Decidable c] {A B : RF} : RpF (if c then A else B) st kx e = if c then RpF A st kx e else RpF B st kx e := by split <;> rfl
theorem rfE_some {er : Kv.Er} {io : List BX} {S : List Ob} {d : D} : rfE er io S (some d) = .ok (.dat d) io S := rfl
theorem rfE_none {er : Kv.Er} {io : List BX} {S : List Ob} : rfE er io S none = .err er io S := rfl
theorem rfE_ite {c : Prop} [Decidable c] {er : Kv.Er} {io : List BX} {S : List Ob} {a b : Option D} : rfE er io S (if c then a else b) = if c then rfE er io S a else rfE er io S b := by split <;> rfl
theorem rp_callIs {n : Nat} {m : Fn} {evs : List EV} {as : List AV} {X : RF} (h : m as [] st.S = X) (hs : splitA st 0 evs = some (as, [], [])) (hn : as.length = n) (hk : RpF X st kx e) : Rp (callR n m evs st) kx e := by
  unfold callR
  rw [hs]
  dsimp only
  rw [if_pos ⟨by simp [tagsOf], hn⟩, h]
  cases X with
  | stuck => exact hk.elim
  | err x io S' =>
    cases io with
    | nil => exact hk
    | cons _ _ => exact hk.elim
  | ok rv io S' =>
    cases rv with
    | io k => exact hk.elim
    | dat d =>
      cases io with
      | nil => exact hk
      | cons _ _ => exact hk.elim
    | new b =>
      cases io with
      | nil => exact hk
      | cons _ _ => exact hk.elim
end
theorem ownB_sl {st : St} {i : Nat} : ownB st (.sl i) = (match st.env[i]? with
    | some (some (.own b)) => some b
    | _ => none) := rfl
theorem ownB_io {st : St} {k : Nat} : ownB st (.io k) = st.io[k]? := rfl
/-! ### steps at an object, for the walk -/
section
variable {st : St} {c f m : Str} {j : Nat} {fs : List (Str × FV)} {d : D} {kvs : List (Key × D)} {ds : List D}
theorem ob_fld {k : D → Prop} (h : st.S[j]? = some (.ins c fs)) (hl : fs.lookup f = some (.dat d)) (hk : k d) : ∃ j' fs', obFs st c (.dat (.ob j)) = some (j', fs') ∧ ∃ d', fs'.lookup f = some (.dat d') ∧ k d' := ⟨_, _, obF_of h, _, hl, hk⟩
theorem ob_rd {k : List (Key × D) → Prop} (h : st.S[j]? = some (.bx (.dct kvs))) (hk : k kvs) : ∃ q, rdct st (.dat (.ob j)) = some q ∧ k q := ⟨_, rdct_ob h, hk⟩
theorem ob_rz {k : List (Key × D) → Prop} (h : st.S[j]? = some (.bx (.fz kvs))) (hk : k kvs) : ∃ q, rdct st (.dat (.ob j)) = some q ∧ k q := ⟨_, rdct_fz h, hk⟩
theorem ob_ownD {k : List (Key × D) → Prop} (h : st.S[j]? = some (.bx (.dct kvs))) (hk : k kvs) : ∃ q, ownB st (.dat (.ob j)) = some (.dct q) ∧ k q := ⟨_, ownB_ob h, hk⟩
theorem ob_ownL {k : List D → Prop} (h : st.S[j]? = some (.bx (.lst ds))) (hk : k ds) : ∃ q, ownB st (.dat (.ob j)) = some (.lst q) ∧ k q := ⟨_, ownB_ob h, hk⟩
theorem ob_meth {k : Prop} (h : st.S[j]? = some (.ins c fs)) (hm : fs.lookup m = none) (hk : k) : obM st c m (.dat (.ob j)) = true ∧ k := ⟨obM_of h hm, hk⟩
theorem ob_set {k : Nat → List (Str × FV) → Prop} (h : st.S[j]? = some (.ins c fs)) (hl : fs.length < 1000) (hk : k j fs) : ∃ j' fs', obFs st c (.dat (.ob j)) = some (j', fs') ∧ fs'.length < 1000 ∧ k j' fs' := ⟨_, _, obF_of h, hl, hk⟩
theorem ob_peek {k : D → Prop} (h : st.S[j]? = some (.bx (.lst ds))) (hk : k (.lst ds)) : ∃ x, peek st (.dat (.ob j)) = some x ∧ k x := ⟨_, peek_ob h, hk⟩
theorem ob_peekL {k : List D → Prop} (h : st.S[j]? = some (.bx (.lst ds))) (hk : k ds) : ∃ x, peek st (.dat (.ob j)) = some (.lst x) ∧ k x := ⟨_, peek_ob h, hk⟩
end
theorem nx_exc {d : D} : (∀ z : EV, EV.dat d = z → z ≠ EV.exc) = True := eq_true fun z e => by subst e; exact fun h => by cases h
theorem sz0 {n : Nat} (h : n ≤ 100000) : n ≤ sizeLine := Nat.le_trans h (by decide)
theorem sz0t {n : Nat} (h : n ≤ 100000) : n < sizeLine := Nat.lt_of_le_of_lt h (by decide)
theorem ne_bb {a b : Bool} : fNe (.bl a) (.bl b) = some (.bl (!decide (a = b))) := by cases a <;> cases b <;> rfl
theorem eq_bb {a b : Bool} : fEq (.bl a) (.bl b) = some (.bl (decide (a = b))) := by cases a <;> cases b <;> rfl
theorem sz_and {n : Nat} {P : Prop} (h : n ≤ 100000) (k : P) : n ≤ sizeLine ∧ P := ⟨Nat.le_trans h (by decide), k⟩
theorem sz_andt {n : Nat} {P : Prop} (h : n ≤ 100000) (k : P) : n < sizeLine ∧ P := ⟨Nat.lt_of_le_of_lt h (by decide), k⟩
theorem nm_1 : Kv.Er.nm .badValue = "BadValue" := rfl
theorem nm_2 : Kv.Er.nm .badDay = "BadDay" := rfl
theorem nm_3 : Kv.Er.nm .missing = "Missing" := rfl
theorem nm_4 : Kv.Er.nm .refused = "Refused" := rfl
theorem nm_5 : Kv.Er.nm .full = "Full" := rfl
theorem nm_6 : Kv.Er.nm .notAllowed = "NotAllowed" := rfl
theorem nm_7 : Kv.Er.nm .damaged = "Damaged" := rfl
end Mi

set_option Elab.async false
set_option linter.all false
set_option maxRecDepth 100000
set_option maxHeartbeats 4000000
namespace Mi
open PySem PySem.Spec PyProof.Rows L2
section
variable {K : Frag} {cl : (Str → Addr) × Addr × Bool} {E : Kv.Er → L2.St → Hp → Prop} {W : Wd} {σ : L2.St} {H : Hp} {ta tb tc : TE} {ma mb mc : M EV}
/-! ### t[a:b] of a tuple, not all of it -/
def mSlA (ma : M EV) (ml mh : M (Option Int)) : M EV := fun st => (ma st).bind fun a st1 => (ml st1).bind fun lo st2 => (mh st2).bind fun hi st3 => match a with
  | .dat (.tup ds) => if ¬ (HT.sIx ds.length 0 lo = 0 ∧ HT.sIx ds.length ds.length hi = ds.length) then .ok (.dat (.tup (cutD ds lo hi))) st3 else .stuck
  | _ => .stuck
theorem sE_slA {tl th : TO} {ml mh : M (Option Int)} (ha : SimE K cl E ta ma) (hl : SimO K cl E tl ml) (hh : SimO K cl E th mh) : SimE K cl E (tSl (rSlT K) ta tl th) (mSlA ma ml mh) := by
  intro W σ H st I Q q
  refine ha W σ H st I _ (Res.imp (Res.bind q) fun a st1 W1 H1 hm1 I1 x1 q1 va ka => ?_)
  refine hl W1 σ H1 st1 I1 _ (Res.imp (Res.bind q1) fun lo st2 W2 H2 hm2 I2 x2 q2 => ?_)
  refine hh W2 σ H2 st2 I2 _ (Res.imp (Res.bind q2) fun hi st3 W3 H3 hm3 I3 x3 q3 => ?_)
  split at q3
  · rename_i ds
    cases ka with
    | @tup p vs _ ht r =>
    split at q3
    · rename_i hc
      refine ⟨p, vs, rfl, Kv.same_tup ((x2.sF.trans x3.sF).trans I3.sub) ht, by rw [r.len]; exact hc, fun p hp => ?_⟩
      have r3 := (r.ext x2).ext x3
      refine q3 _ _ (I3.new hp) (Ext.new I3 hp) _ (.tup (SqT.of upd_same) ?_)
      unfold cutV cutD
      rw [r.len]
      exact ((r3.drop _).take _).mono (Kv.same_upd (I3.free hp).2) (List.prefix_refl _)
    · exact q3.elim
  · exact q3.elim
/-! ### tuple(xs) -/
def mTupOf (ma : M EV) : M EV := fun st => (ma st).bind fun a st1 => match peek st1 a with
  | some (.lst ds) => .ok (.dat (.tup ds)) st1
  | some (.tup ds) => .ok (.dat (.tup ds)) st1
  | _ => .stuck
theorem sE_tupOf (ha : SimE K cl E ta ma) : SimE K cl E (tCB (fun xs H Q => ∃ p ys, xs = [.ref p] ∧ ((SqL K H p ys ∧ ∀ l, H l = none → Q (.ref l) (upd H l (.tup ys))) ∨ (SqT K H p ys ∧ Q (.ref p) H))) (tCons ta tNil)) (mTupOf ma) := by
  intro W σ H st I Q q
  refine ha W σ H st I _ (Res.imp (Res.bind q) fun a st1 W1 H1 hm1 I1 x1 q1 va ka => ?_)
  split at q1
  · rename_i ds e
    obtain ⟨p, vs, rfl, hq, r⟩ := peek_ok I1 ka e
    refine ⟨p, vs, rfl, .inl ⟨hq, fun l hp => ?_⟩⟩
    exact q1 _ _ (I1.new hp) (Ext.new I1 hp) _ (.tup (SqT.of upd_same) (r.mono (Kv.same_upd (I1.free hp).2) (List.prefix_refl _)))
  · rename_i ds e
    have k := peek_ok I1 ka e
    cases k with
    | @tup p vs _ ht r => exact ⟨p, vs, rfl, .inr ⟨Kv.same_tup I1.sub ht, q1.now I1 _ (.tup ht r)⟩⟩
  · exact q1.elim
/-! ### xs[i] op= e -/
def mAugL (f : D → D → Option D) (mo mi me : M EV) : M Fl := fun st => (mo st).bind fun o st1 => (mi st1).bind fun i st2 => match peek st2 o, i with
  | some (.lst xs), .dat (.int k) => if 0 ≤ k then match xs[k.toNat]? with
    | some x => (me st2).bind fun b st3 => match b with
      | .dat y => match f x y with
        | some z => match ownB st3 o with
          | some (.lst xs') => match ixN xs'.length k with
            | some j => match setH st3 o (.lst (xs'.set j z)) with
              | some st4 => .ok .nx st4
              | none => .stuck
            | none => .stuck
          | _ => .stuck
        | none => .stuck
      | _ => .stuck
    | none => .stuck
    else .stuck
  | _, _ => .stuck
def AuIp (tip : TIp) (g : D → D → Option D) : Prop := ∀ x y z, g x y = some z → ∃ vx vy vz, scV x = some vx ∧ scV y = some vy ∧ scV z = some vz ∧ ∀ H (Q : VK), Q vz H → tip vx vy H Q
theorem ai_of {g : Int → Int → Int} : AuIp (ipI g) (iOp (fun _ _ => True) fun i j => .int (g i j)) := fun x y z e => by
  cases x <;> cases y <;> simp only [iOp, reduceCtorEq] at e
  simp only [if_pos, Option.some.injEq] at e
  subst e
  exact ⟨_, _, _, rfl, rfl, rfl, fun H Q q => ⟨_, _, rfl, rfl, q⟩⟩
theorem sS_augL {to ti te : TE} {mo mi me : M EV} {tip : TIp} {g : D → D → Option D} (hg : AuIp tip g) (ho : SimE K cl E to mo) (hi : SimE K cl E ti mi) (he : SimE K cl E te me) : SimS K cl E (tAugS to ti te (Kv.rGetL K) tip rSetL) (mAugL g mo mi me) := by
  intro W σ H st I D q
  refine ho W σ H st I _ (Res.imp (ResS.bind q) fun o st1 W1 H1 _ I1 x1 q1 vo ko => ?_)
  refine hi W1 σ H1 st1 I1 _ (Res.imp (ResS.bind q1) fun i st2 W2 H2 _ I2 x2 q2 vi ki => ?_)
  split at q2
  rotate_left
  · exact q2.elim
  rename_i xs k e1 _
  split at q2
  rotate_left
  · exact q2.elim
  rename_i k0
  split at q2
  rotate_left
  · exact q2.elim
  rename_i x ex
  obtain ⟨p, us, rfl, hq, r⟩ := peek_ok I2 (ko.ext x2) e1
  cases ki
  obtain ⟨v, ev, rv⟩ := r.get ex
  refine ⟨p, us, k, v, rfl, rfl, hq, k0, ev, he W2 σ H2 st2 I2 _ (Res.imp (ResS.bind q2) fun b st3 W3 H3 _ I3 x3 q3 vb kb => ?_)⟩
  split at q3
  rotate_left
  · exact q3.elim
  rename_i y _
  split at q3
  rotate_left
  · exact q3.elim
  rename_i z ez
  obtain ⟨vx, vy, vz, ex, ey, ed, kk⟩ := hg x y z ez
  rw [scV_rep ex rv, scV_rep ey kb]
  refine kk H3 _ ?_
  split at q3
  rotate_left
  · exact q3.elim
  rename_i xs' e4
  split at q3
  rotate_left
  · exact q3.elim
  rename_i j ej
  obtain ⟨p', t, ep, ho', hn, ⟨us', h1, r1⟩, hm⟩ := own_mut I3 ((ko.ext x2).ext x3) e4
  cases ep
  obtain ⟨st4, e5, I5⟩ := hm (.lst (us'.set j vz)) (.lst (xs'.set j z)) (BxOk.new (RepL.set (scV_mk ed) j r1))
  rw [e5] at q3
  exact ⟨p, us', k, j, rfl, rfl, h1, by rw [r1.len]; exact ej, q3 σ W3 _ I5 (Ext.mut ho' hn (nofz h1 nofz_lst))⟩
end
section
variable {k : EV → St → Prop} {kf : Fl → St → Prop} {e : Kv.Er → St → Prop} {st : St} {ma mo mi me : M EV} {ml mh : M (Option Int)}
theorem rp_slA : Rp (mSlA ma ml mh st) k e = Rp (ma st) (fun a st1 => Rp (ml st1) (fun lo st2 => Rp (mh st2) (fun hi st3 => ∃ ds, a = .dat (.tup ds) ∧ ¬ (HT.sIx ds.length 0 lo = 0 ∧ HT.sIx ds.length ds.length hi = ds.length) ∧ k (.dat (.tup (cutD ds lo hi))) st3) e) e) e := by
  unfold mSlA
  simp only [rp_bind]
  congr 1
  funext a st1
  congr 1
  funext lo st2
  congr 1
  funext hi st3
  split
  · rename_i ds
    simp only [EV.dat.injEq, D.tup.injEq, exists_eq_left']
    split
    · rename_i h; simp only [h, not_false_eq_true, true_and]; rfl
    · rename_i h; simp only [h, false_and]; rfl
  · rename_i h
    simp only [Rp, eq_iff_iff, false_iff]
    rintro ⟨ds, e1, _⟩
    exact h ds e1
theorem rp_tupOf : Rp (mTupOf ma st) k e = Rp (ma st) (fun a st1 => ∃ x, peek st1 a = some x ∧ ∃ ds, (x = .lst ds ∨ x = .tup ds) ∧ k (.dat (.tup ds)) st1) e := by
  unfold mTupOf
  rw [rp_bind]
  congr 1
  funext a st1
  split
  · rename_i ds h; rw [h, ex_sm]; simp [Rp]
  · rename_i ds h; rw [h, ex_sm]; simp [Rp]
  · rename_i h1 h2
    simp only [Rp, eq_iff_iff, false_iff]
    rintro ⟨x, e1, ds, e2, _⟩
    rcases e2 with rfl | rfl
    · exact h1 ds e1
    · exact h2 ds e1
theorem rp_augL {f : D → D → Option D} : Rp (mAugL f mo mi me st) kf e = Rp (mo st) (fun o st1 => Rp (mi st1) (fun i st2 => ∃ xs, peek st2 o = some (.lst xs) ∧ ∃ kk, i = .dat (.int kk) ∧ 0 ≤ kk ∧ ∃ x, xs[kk.toNat]? = some x ∧ Rp (me st2) (fun b st3 => ∃ y, b = .dat y ∧ ∃ z, f x y = some z ∧ ∃ xs', ownB st3 o = some (.lst xs') ∧ ∃ j, ixN xs'.length kk = some j ∧ ∃ st4, setH st3 o (.lst (xs'.set j z)) = some st4 ∧ kf .nx st4) e) e) e := by
  unfold mAugL
  simp only [rp_bind]
  congr 1
  funext o st1
  congr 1
  funext i st2
  split
  · rename_i xs kk h1
    rw [h1]
    simp only [Option.some.injEq, D.lst.injEq, exists_eq_left', EV.dat.injEq, D.int.injEq]
    split
    · rename_i h2
      simp only [h2, true_and]
      cases h3 : xs[kk.toNat]? with
      | none => rw [ex_nn]; rfl
      | some x =>
        rw [ex_sm]
        dsimp only
        rw [rp_bind]
        congr 1
        funext b st3
        cases b with
        | dat y =>
          simp only [EV.dat.injEq, exists_eq_left']
          cases h4 : f x y with
          | none => rw [ex_nn]; rfl
          | some z =>
            rw [ex_sm]
            dsimp only
            split
            · rename_i xs' h5
              rw [h5]
              simp only [Option.some.injEq, BX.lst.injEq, exists_eq_left']
              cases h6 : ixN xs'.length kk with
              | none => rw [ex_nn]; rfl
              | some j =>
                rw [ex_sm]
                dsimp only
                cases h7 : setH st3 o (.lst (xs'.set j z)) with
                | none => rw [ex_nn]; rfl
                | some st4 => rw [ex_sm]; rfl
            · rename_i h5
              simp only [Rp, eq_iff_iff, false_iff]
              rintro ⟨xs', e1, _⟩
              exact h5 xs' e1
        | _ => simp [Rp]
    · rename_i h2
      simp [h2, Rp]
  · rename_i h
    simp only [Rp, eq_iff_iff, false_iff]
    rintro ⟨xs, e1, kk, e2, _⟩
    exact h xs kk e1 e2
end
theorem op_catK {X : Cx} {K : Frag} (hK : X.K = K := by rfl) : OpR X (binaryOp .Add) (Kv.rCatS K) := by subst hK; exact Kv.op_catS
end Mi

set_option Elab.async false
set_option linter.all false
set_option autoImplicit false
set_option maxRecDepth 100000
open PySem PySem.Spec PyProof.Rows L2
namespace Mi
/-! ### max and min of a list of whole numbers; a field read inside a comprehension -/
theorem pe_fldK (K : PySem.W.Frag) {X : Cx} {e : Expr} {f : String} {ta : TE} {pos : Pos} (he : PE X e ta) (hb : attributeBase e f X.env (eval e X.env) = eval e X.env) (h : X.K = K := by rfl) : PE X (.Attribute e f pos) (tFld K ta f) := by
  subst h
  exact pe_fld he hb
def maxI : Int → List Int → Int
  | m, [] => m
  | m, x :: r => maxI (if x > m then x else m) r
def minI : Int → List Int → Int
  | m, [] => m
  | m, x :: r => minI (if x < m then x else m) r
theorem maxI_le : ∀ (r : List Int) (m : Int), m ≤ maxI m r ∧ (∀ y ∈ r, y ≤ maxI m r) ∧ (maxI m r = m ∨ maxI m r ∈ r)
  | [], m => ⟨Int.le_refl _, fun _ h => (nomatch h), .inl rfl⟩
  | x :: r, m => by
    obtain ⟨h1, h2, h3⟩ := maxI_le r (if x > m then x else m)
    rw [maxI]
    refine ⟨?_, ?_, ?_⟩
    · split at h1 <;> split <;> omega
    · intro y hy
      rcases List.mem_cons.mp hy with rfl | hy
      · split at h1 <;> split <;> omega
      · exact h2 y hy
    · rcases h3 with h3 | h3
      · by_cases c : x > m
        · rw [if_pos c] at h3 ⊢
          exact .inr (by rw [h3]; exact List.mem_cons_self)
        · rw [if_neg c] at h3 ⊢
          exact .inl h3
      · exact .inr (List.mem_cons_of_mem _ h3)
theorem minI_le : ∀ (r : List Int) (m : Int), minI m r ≤ m ∧ (∀ y ∈ r, minI m r ≤ y) ∧ (minI m r = m ∨ minI m r ∈ r)
  | [], m => ⟨Int.le_refl _, fun _ h => (nomatch h), .inl rfl⟩
  | x :: r, m => by
    obtain ⟨h1, h2, h3⟩ := minI_le r (if x < m then x else m)
    rw [minI]
    refine ⟨?_, ?_, ?_⟩
    · split at h1 <;> split <;> omega
    · intro y hy
      rcases List.mem_cons.mp hy with rfl | hy
      · split at h1 <;> split <;> omega
      · exact h2 y hy
    · rcases h3 with h3 | h3
      · by_cases c : x < m
        · rw [if_pos c] at h3 ⊢
          exact .inr (by rw [h3]; exact List.mem_cons_self)
        · rw [if_neg c] at h3 ⊢
          exact .inl h3
      · exact .inr (List.mem_cons_of_mem _ h3)
def maxL : List Int → Option D
  | [] => none
  | x :: r => some (.int (maxI x r))
def minL : List Int → Option D
  | [] => none
  | x :: r => some (.int (minI x r))
def fMaxL : List D → Option D
  | [.lst ds] => (intsD ds).bind maxL
  | _ => none
def fMinL : List D → Option D
  | [.lst ds] => (intsD ds).bind minL
  | _ => none
section
variable {K : PySem.W.Frag}
theorem pk_maxL : PkC K (rMax K) fMaxL := by
  intro W H vs ds d s ks e
  unfold fMaxL at e
  split at e
  · rename_i es
    cases ks with
    | cons k t =>
      cases t
      obtain ⟨a, us, rfl, q, r⟩ := k
      cases c : intsD es with
      | none => rw [c] at e; cases e
      | some ns =>
        rw [c] at e
        cases ns with
        | nil => cases e
        | cons x l =>
          cases e
          rw [intsD_rep c r] at q
          refine ⟨_, .int _, fun Q k => ⟨a, x :: l, rfl, q, Nat.succ_pos _, fun m hm hle => ?_⟩⟩
          obtain ⟨h1, h2, h3⟩ := maxI_le l x
          have : m = maxI x l := by
            apply Int.le_antisymm
            · rcases List.mem_cons.mp hm with rfl | hm
              · exact h1
              · exact h2 _ hm
            · refine hle _ ?_
              rcases h3 with h3 | h3
              · rw [h3]; exact List.mem_cons_self
              · exact List.mem_cons_of_mem _ h3
          rw [this]
          exact k
  · cases e
theorem pk_minL : PkC K (rMin K) fMinL := by
  intro W H vs ds d s ks e
  unfold fMinL at e
  split at e
  · rename_i es
    cases ks with
    | cons k t =>
      cases t
      obtain ⟨a, us, rfl, q, r⟩ := k
      cases c : intsD es with
      | none => rw [c] at e; cases e
      | some ns =>
        rw [c] at e
        cases ns with
        | nil => cases e
        | cons x l =>
          cases e
          rw [intsD_rep c r] at q
          refine ⟨_, .int _, fun Q k => ⟨a, x :: l, rfl, q, Nat.succ_pos _, fun m hm hle => ?_⟩⟩
          obtain ⟨h1, h2, h3⟩ := minI_le l x
          have : m = minI x l := by
            apply Int.le_antisymm
            · refine hle _ ?_
              rcases h3 with h3 | h3
              · rw [h3]; exact List.mem_cons_self
              · exact List.mem_cons_of_mem _ h3
            · rcases List.mem_cons.mp hm with rfl | hm
              · exact h1
              · exact h2 _ hm
          rw [this]
          exact k
  · cases e
theorem fMaxL_some (x : Int) (r : List Int) : fMaxL [.lst ((x :: r).map D.int)] = some (.int (maxI x r)) := by
  show (intsD ((x :: r).map D.int)).bind maxL = _
  rw [intsD_map]
  rfl
theorem fMinL_some (x : Int) (r : List Int) : fMinL [.lst ((x :: r).map D.int)] = some (.int (minI x r)) := by
  show (intsD ((x :: r).map D.int)).bind minL = _
  rw [intsD_map]
  rfl
end
/-! ### more walks and comprehensions, read -/
section
variable {vs : List Nat} {mg : EV → M Unit} {me ma : M EV} {mt : M Bool} {m1 : M Fl} {kf : Fl → St → Prop} {e : Kv.Er → St → Prop} {st : St} {mas : M (List EV)}
theorem rp_zip_it (I : List D → St → Prop) (h : Rp (mas st) (fun as st1 => ∃ xs ys, as = [.dat (.lst xs), .dat (.lst ys)] ∧ I (zipD xs ys) st1) e) (hs : ∀ d r st, I (d :: r) st → Rp (mg (.dat d) st) (fun _ st1 => Rp (m1 st1) (LpEnd (I r) kf) e) e) (hd : ∀ st, I [] st → kf .nx st) : Rp (mFor (mIZip mas) mg m1 st) kf e := by
  unfold mFor mIZip
  rw [rp_bind, rp_bind]
  refine rp_imp h (fun as st1 g => ?_) (fun _ _ z => z)
  obtain ⟨xs, ys, rfl, h1⟩ := g
  dsimp only
  rw [rp_ite, if_neg (by simp [isSl])]
  simp only [peek]
  rw [rp_ok]
  exact rp_forR I (fun _ _ _ => by simp) hs hd _ st1 h1
theorem rp_enum_it (I : List D → St → Prop) (h : Rp (mas st) (fun as st1 => ∃ xs, as = [.dat (.lst xs)] ∧ I (enumD 0 xs) st1) e) (hs : ∀ d r st, I (d :: r) st → Rp (mg (.dat d) st) (fun _ st1 => Rp (m1 st1) (LpEnd (I r) kf) e) e) (hd : ∀ st, I [] st → kf .nx st) : Rp (mFor (mIEnum mas) mg m1 st) kf e := by
  unfold mFor mIEnum
  rw [rp_bind, rp_bind]
  refine rp_imp h (fun as st1 g => ?_) (fun _ _ z => z)
  obtain ⟨xs, rfl, h1⟩ := g
  dsimp only
  rw [rp_ite, if_neg (by simp [isSl])]
  simp only [peek]
  rw [rp_ok]
  exact rp_forR I (fun _ _ _ => trivial) hs hd _ st1 h1
open Classical in
theorem rp_lc_lst (I : List D → List D → St → Prop) {a : EV} {ds : List D} {st0 : St} {kx : BX → St → Prop} (h1 : ma st = .ok a st0) (ns : isSl a = false) (hp : peek st0 a = some (.lst ds)) (h0 : I ds [] st0) (hc : ∀ r acc st', I r acc st' → peek (st'.wiped vs) a = some (.lst ds))
    (hs : ∀ d r acc st', I (d :: r) acc st' → Rp (mg (.dat d) (st'.wiped vs)) (fun _ st1 => Rp (mt st1) (fun b st2 => if b = true then Rp (me st2) (fun ev st3 => Rp (toD ev st3) (fun x st4 => acc.length < sizeLine ∧ I r (acc ++ [x]) st4) (fun _ _ => False)) (fun _ _ => False) else I r acc st2) (fun _ _ => False)) (fun _ _ => False))
    (hd : ∀ acc st', I [] acc st' → kx (.lst acc) { st' with env := restE st0.env st'.env vs }) : Rp (mLc vs (mIList ma) mg mt me st) kx e := by
  refine rp_lcF (it := ⟨ds, fun st2 => peek st2 a = some (.lst ds)⟩) (st0 := st0) ?_ ?_
  · unfold mIList
    rw [h1]
    show (if isSl a = true then R.stuck else match peek st0 a with
      | some (.lst ds) => R.ok ⟨ds, fun st2 => peek st2 a = some (.lst ds)⟩ st0
      | _ => .stuck : R Itr) = _
    rw [if_neg (by rw [ns]; decide), hp]
  · exact rp_lcFl I hc hs (fun acc st' g => hd acc st' g) ds [] st0 h0
theorem rp_lst_pk (I : List D → St → Prop) (h : Rp (ma st) (fun ev st1 => isSl ev = false ∧ ∃ ds, peek st1 ev = some (.lst ds) ∧ I ds st1 ∧ ∀ r st', I r st' → peek st' ev = some (.lst ds)) e) (hs : ∀ d r st, I (d :: r) st → Rp (mg (.dat d) st) (fun _ st1 => Rp (m1 st1) (LpEnd (I r) kf) e) e) (hd : ∀ st, I [] st → kf .nx st) : Rp (mFor (mIList ma) mg m1 st) kf e := by
  unfold mFor mIList
  rw [rp_bind, rp_bind]
  refine rp_imp h (fun ev st1 g => ?_) (fun _ _ z => z)
  obtain ⟨ns, ds, h1, h2, h3⟩ := g
  rw [rp_ite, if_neg (by rw [ns]; decide), h1]
  dsimp only
  rw [rp_ok]
  exact rp_forR I h3 hs hd ds st1 h2
theorem rp_callME {n : Nat} {m : Fn} {evs : List EV} {kx : EV ⊕ BX → St → Prop} {as : List AV} {hs : List EV} {bs io : List BX} {S : List Ob} {x : Kv.Er} (hm : m as bs st.S = .err x io S) (hsp : splitA st 0 evs = some (as, hs, bs)) (hn : as.length = n) (hnd : (tagsOf hs).Nodup) (hl : io.length = hs.length) (hk : e x (mPut hs st io S)) : Rp (callR n m evs st) kx e := by
  unfold callR
  rw [hsp]
  dsimp only
  rw [if_pos ⟨hnd, hn⟩, hm]
  dsimp only
  rw [if_pos hl]
  exact hk
theorem mFld_ok {c f : Str} {st1 : St} {j : Nat} {fs : List (Str × FV)} {d : D} (h1 : ma st = .ok (.dat (.ob j)) st1) (h2 : st1.S[j]? = some (.ins c fs)) (h3 : fs.lookup f = some (.dat d)) : mFld c f ma st = .ok (.dat d) st1 := by
  unfold mFld
  rw [h1]
  show (match obFs st1 c (.dat (.ob j)) with
    | some (_, fs) => match fs.lookup f with
      | some (.dat d) => R.ok (EV.dat d) st1
      | _ => .stuck
    | none => .stuck : R EV) = _
  rw [obF_of h2]
  dsimp only
  rw [h3]
theorem rp_zip_pk (I : List D → St → Prop) (h : Rp (mas st) (fun as st1 => ∃ a b, as = [a, b] ∧ isSl a = false ∧ isSl b = false ∧ ∃ xs ys, peek st1 a = some (.lst xs) ∧ peek st1 b = some (.lst ys) ∧ I (zipD xs ys) st1 ∧ ∀ r st', I r st' → peek st' a = some (.lst xs) ∧ peek st' b = some (.lst ys)) e) (hs : ∀ d r st, I (d :: r) st → Rp (mg (.dat d) st) (fun _ st1 => Rp (m1 st1) (LpEnd (I r) kf) e) e) (hd : ∀ st, I [] st → kf .nx st) : Rp (mFor (mIZip mas) mg m1 st) kf e := by
  unfold mFor mIZip
  rw [rp_bind, rp_bind]
  refine rp_imp h (fun as st1 g => ?_) (fun _ _ z => z)
  obtain ⟨a, b, rfl, na, nb, xs, ys, ea, eb, h1, h2⟩ := g
  dsimp only
  rw [rp_ite, if_neg (by rw [na, nb]; decide), ea, eb]
  dsimp only
  rw [rp_ok]
  exact rp_forR I h2 hs hd _ st1 h1
end
end Mi

set_option Elab.async false
set_option linter.all false
set_option maxRecDepth 100000
set_option maxHeartbeats 4000000
/-! Mi22: an item of what may be a list or a tuple; a def that calls itself -/
namespace Mi
open PySem PySem.Spec PyProof.Rows L2
section
variable {K : Frag}
def fIxA : D → D → Option D
  | .lst ds, .int i => atI ds i
  | .tup ds, .int i => atI ds i
  | _, _ => none
theorem pk_ixA : PkOp K (rIx K) fIxA := by
  intro W H vx vy x y d s kx ky e
  unfold fIxA at e
  split at e
  · obtain ⟨v, rv, h⟩ := pk_ixL W H vx vy (.lst _) (.int _) d s kx ky e
    exact ⟨v, rv, fun Q k => .inl (h Q k)⟩
  · obtain ⟨v, rv, h⟩ := pk_ixT W H vx vy (.tup _) (.int _) d s kx ky e
    exact ⟨v, rv, fun Q k => .inr (.inl (h Q k))⟩
  · cases e
theorem ixa (K : Frag) {X : Cx} (h : X.K = K := by rfl) : IxR X (rIx K) := by subst h; exact ix_seq
theorem spM_stuck {c : Str → Addr} {ex : Kv.Er → Addr} {n : Nat} {vs : List V} {H : Hp} {Q : VK} {E : XK} (h : spM K c ex n (noErrF (fun _ _ _ => .stuck)) vs H Q E) : False := by
  obtain ⟨_, xa, W, io, S, as, _, _, _, q⟩ := h
  exact q
end
theorem kit_nb : kitB "NoneType" "bool" = some false := by decide +kernel
theorem kit_ni : kitB "NoneType" "int" = some false := by decide +kernel
theorem kit_ns : kitB "NoneType" "str" = some false := by decide +kernel
theorem kit_nl : kitB "NoneType" "list" = some false := by decide +kernel
theorem kit_nt : kitB "NoneType" "tuple" = some false := by decide +kernel
theorem kit_bi : kitB "bool" "int" = some true := by decide +kernel
theorem kit_bs : kitB "bool" "str" = some false := by decide +kernel
theorem kit_bl : kitB "bool" "list" = some false := by decide +kernel
theorem kit_bt : kitB "bool" "tuple" = some false := by decide +kernel
theorem kit_is : kitB "int" "str" = some false := by decide +kernel
theorem kit_il : kitB "int" "list" = some false := by decide +kernel
theorem kit_it : kitB "int" "tuple" = some false := by decide +kernel
theorem kit_sb : kitB "str" "bool" = some false := by decide +kernel
theorem kit_si : kitB "str" "int" = some false := by decide +kernel
theorem kit_sl : kitB "str" "list" = some false := by decide +kernel
theorem kit_st : kitB "str" "tuple" = some false := by decide +kernel
theorem kit_lb : kitB "list" "bool" = some false := by decide +kernel
theorem kit_li : kitB "list" "int" = some false := by decide +kernel
theorem kit_ls : kitB "list" "str" = some false := by decide +kernel
theorem kit_lt : kitB "list" "tuple" = some false := by decide +kernel
theorem kit_tb : kitB "tuple" "bool" = some false := by decide +kernel
theorem kit_ti : kitB "tuple" "int" = some false := by decide +kernel
theorem kit_ts : kitB "tuple" "str" = some false := by decide +kernel
theorem kit_tl : kitB "tuple" "list" = some false := by decide +kernel
section
variable {k : EV → St → Prop} {e : Kv.Er → St → Prop} {st : St} {ma mb : M EV}
theorem rp_catA : Rp (mCatA ma mb st) k e = Rp (ma st) (fun a st1 => Rp (mb st1) (fun b st2 => ∃ xs, a = .dat (.tup xs) ∧ ∃ ys, b = .dat (.tup ys) ∧ xs.length + ys.length ≤ sizeLine ∧ k (.dat (.tup (xs ++ ys))) st2) e) e := by
  unfold mCatA
  simp only [rp_bind]
  congr 1
  funext a st1
  congr 1
  funext b st2
  split
  · rename_i xs ys
    simp only [EV.dat.injEq, D.tup.injEq, exists_eq_left']
    split
    · rename_i h; simp only [h, true_and]; rfl
    · rename_i h; simp only [h, false_and]; rfl
  · rename_i h
    simp only [Rp, eq_iff_iff, false_iff]
    rintro ⟨xs, e1, ys, e2, _⟩
    exact h xs ys e1 e2
end
/-! ### a if c else b, as a test -/
def tIfT (t ta tb : TT) : TT := fun σ H Q => t σ H fun c H1 => if c = true then ta σ H1 Q else tb σ H1 Q
theorem pt_ifE {X : Cx} {c a b : Expr} {pos : Pos} {tc ta tb : TT} (hc : PT X c tc) (ha : PT X a ta) (hb : PT X b tb) : PT X (.IfExp c a b pos) (tIfT tc ta tb) := by
  refine ⟨fun pins s σ H Q I h => ?_⟩
  refine isTrue_IfExp (thn (hc.run pins s σ H _ I h) fun d s1 ⟨H1, I1, q1⟩ => ?_)
  cases d with
  | true => exact ha.run pins s1 σ H1 Q I1 q1
  | false => exact hb.run pins s1 σ H1 Q I1 q1
def mIfT (mt ma mb : M Bool) : M Bool := fun st => (mt st).bind fun b st1 => if b = true then ma st1 else mb st1
theorem sT_ifE {K : Frag} {cl : (Str → Addr) × Addr × Bool} {E : Kv.Er → L2.St → Hp → Prop} {t ta tb : TT} {mt ma mb : M Bool} (hc : SimT K cl E t mt) (h1 : SimT K cl E ta ma) (h2 : SimT K cl E tb mb) : SimT K cl E (tIfT t ta tb) (mIfT mt ma mb) := by
  intro W σ H st I Q q
  refine hc W σ H st I _ (Res.imp (Res.bind q) fun b st1 W1 H1 hm1 I1 x1 q1 => ?_)
  split at q1
  · rename_i c; rw [if_pos c]; exact h1 W1 σ H1 st1 I1 Q q1
  · rename_i c; rw [if_neg c]; exact h2 W1 σ H1 st1 I1 Q q1
theorem rp_ifT {mt ma mb : M Bool} {st : St} {kb : Bool → St → Prop} {e : Kv.Er → St → Prop} : Rp (mIfT mt ma mb st) kb e = Rp (mt st) (fun b st1 => if b = true then Rp (ma st1) kb e else Rp (mb st1) kb e) e := by
  unfold mIfT; rw [rp_bind]; congr 1; funext b st1; rw [rp_ite]
/-- a reading that is not to be run -/
@[irreducible] def RpI {α : Type} (r : R α) (k : α → St → Prop) (e : Kv.Er → St → Prop) : Prop := Rp r k e
theorem RpI.of {α : Type} {r : R α} {k : α → St → Prop} {e : Kv.Er → St → Prop} (h : Rp r k e) : RpI r k e := by
  unfold RpI
  exact h
theorem RpI.to {α : Type} {r : R α} {k : α → St → Prop} {e : Kv.Er → St → Prop} (h : RpI r k e) : Rp r k e := by
  unfold RpI at h
  exact h
/-! ### a part of a def, apart -/
theorem lpW {r : R Fl} {I : St → Prop} {kf : Fl → St → Prop} {e : Kv.Er → St → Prop} (h : Rp r (LpEnd I (fun _ _ => False)) (fun _ _ => False)) : Rp r (LpEnd I kf) e := by
  refine rp_imp h (fun f st g => ?_) (fun _ _ z => z.elim)
  cases f with
  | nx => exact g
  | cont => exact g
  | brk => exact g.elim
  | ret v => exact g.elim
theorem sqG {r : R Fl} {I N : St → Prop} {kf : Fl → St → Prop} {e : Kv.Er → St → Prop} (h : Rp r (SqEnd I (fun _ _ => False)) (fun _ _ => False)) (k : ∀ st, I st → N st) : Rp r (SqEnd N kf) e := by
  refine rp_imp h (fun f st g => ?_) (fun _ _ z => z.elim)
  cases f with
  | nx => exact k _ g
  | cont => exact g.elim
  | brk => exact g.elim
  | ret v => exact g.elim
theorem sqW {r : R Fl} {I : St → Prop} {kf : Fl → St → Prop} {e : Kv.Er → St → Prop} (h : Rp r (SqEnd I (fun _ _ => False)) (fun _ _ => False)) : Rp r (SqEnd I kf) e := sqG h fun _ z => z
end Mi

set_option Elab.async false
set_option linter.all false
set_option maxRecDepth 100000
set_option maxHeartbeats 4000000
/-! Mi23: dicts written out; a walk over a numbered list behind a handle -/
namespace Mi
open PySem PySem.Spec PyProof.Rows L2
section
variable {K : Frag} {cl : (Str → Addr) × Addr × Bool} {E : Kv.Er → L2.St → Hp → Prop} {W : Wd} {σ : L2.St} {H : Hp} {tk tv : TE} {mk mv : M EV} {trs : List (TE × TE)} {mp : M (List (Key × D))}
def mPsNil : M (List (Key × D)) := M.pure []
def mPsCons (mk mv : M EV) (mp : M (List (Key × D))) : M (List (Key × D)) := fun st => (mk st).bind fun k st1 => (mv st1).bind fun v st2 => match keyE k, v with
  | some q, .dat d => (mp st2).bind fun r st3 => .ok ((q, d) :: r) st3
  | _, _ => .stuck
def SimPs (K : Frag) (cl : (Str → Addr) × Addr × Bool) (E : Kv.Er → L2.St → Hp → Prop) (trs : List (TE × TE)) (mp : M (List (Key × D))) : Prop := ∀ W σ H st, Inv K cl W σ H st → ∀ Q : List (V × V) → Hp → Prop,
  Res K cl E W σ H (mp st) (fun kvs _ W' H' => ∀ us, KvR K W'.F W'.ρ us kvs → Q (us.map fun kv => (kV kv.1, kv.2)) H') → tPairs trs σ H Q
theorem sPs_nil : SimPs K cl E [] mPsNil := by
  intro W σ H st I Q q
  exact q.now I [] .nil
theorem sPs_cons (hk : SimE K cl E tk mk) (hv : SimE K cl E tv mv) (hr : SimPs K cl E trs mp) : SimPs K cl E ((tk, tv) :: trs) (mPsCons mk mv mp) := by
  intro W σ H st I Q q
  refine hk W σ H st I _ (Res.imp (Res.bind q) fun k st1 W1 H1 hm1 I1 x1 q1 x kx => ?_)
  refine hv W1 σ H1 st1 I1 _ (Res.imp (Res.bind q1) fun v st2 W2 H2 hm2 I2 x2 q2 y ky => ?_)
  split at q2
  · rename_i qk d e
    refine hr W2 σ H2 st2 I2 _ (Res.imp (Res.bind q2) fun r st3 W3 H3 hm3 I3 x3 q3 us hus => ?_)
    have ex := keyE_ok (kx.ext x2) e
    subst ex
    exact q3.now I3 ((qk, y) :: us) (.cons (Rep.ext x3 ky) hus)
  · exact q2.elim
theorem KvR.merge {F : Hp} {ρ : List Addr} {us : List (Key × V)} {kvs : List (Key × D)} (g : KvR K F ρ us kvs) : ∀ {a : List (Key × V)} {b : List (Key × D)}, KvR K F ρ a b → KvR K F ρ (mergeK a us) (kvs.foldl (fun acc kv => dPut acc kv.1 kv.2) b) := by
  induction g with
  | nil => intro a b h; exact h
  | cons h t ih => intro a b g; exact ih (g.put h)
def mDisp (mp : M (List (Key × D))) : M BX := fun st => (mp st).bind fun kvs st1 => if kvs.length ≤ 15 then .ok (.dct (kvs.foldl (fun acc kv => dPut acc kv.1 kv.2) [])) st1 else .stuck
theorem sN_disp (h : SimPs K cl E trs mp) : SimN K cl E (tDisp trs) (mDisp mp) := by
  intro W σ H st I Q q p hp
  obtain ⟨z1, z2⟩ := I.free hp
  have x0 : Ext W H W (upd H p (.dK [])) := Ext.new0 hp
  refine h W σ _ st (I.new0 hp) _ ?_
  unfold mDisp at q
  cases e : mp st with
  | stuck => rw [e] at q; exact q.elim
  | err er st1 =>
    rw [e] at q
    exact fun W' H' I' x' => q W' H' I' (x0.trans x')
  | ok kvs st1 =>
    rw [e] at q
    intro W' H' I' x' us hus
    have e1 := x'.un p _ upd_same (.inl z1)
    have n1 := x'.nw p _ upd_same z1
    have f1 := x'.fz p _ upd_same z1 z2
    by_cases hl : kvs.length ≤ 15
    · have q : Res K cl E W σ H (if kvs.length ≤ 15 then R.ok (BX.dct (kvs.foldl (fun acc kv => dPut acc kv.1 kv.2) [])) st1 else .stuck) _ := q
      rw [if_pos hl] at q
      refine ⟨e1, us, rfl, by rw [hus.len]; exact hl, ?_⟩
      exact q W' _ (I'.tmp f1 n1) ((x0.trans x').tmp hp) p hp f1 n1 (BxOk.dct upd_same (hus.merge .nil))
    · have q : Res K cl E W σ H (if kvs.length ≤ 15 then R.ok (BX.dct (kvs.foldl (fun acc kv => dPut acc kv.1 kv.2) [])) st1 else .stuck) _ := q
      rw [if_neg hl] at q
      exact q.elim
end
section
variable {k : List (Key × D) → St → Prop} {kx : BX → St → Prop} {e : Kv.Er → St → Prop} {st : St} {mk mv : M EV} {mp : M (List (Key × D))}
theorem rp_psNil : Rp (mPsNil st) k e = k [] st := rfl
theorem rp_psCons : Rp (mPsCons mk mv mp st) k e = Rp (mk st) (fun a st1 => Rp (mv st1) (fun v st2 => ∃ q, keyE a = some q ∧ ∃ d, v = .dat d ∧ Rp (mp st2) (fun r st3 => k ((q, d) :: r) st3) e) e) e := by
  unfold mPsCons
  simp only [rp_bind]
  congr 1
  funext a st1
  congr 1
  funext v st2
  split
  · rename_i q d h
    rw [h]
    simp only [Option.some.injEq, exists_eq_left', EV.dat.injEq]
    rw [rp_bind]
    rfl
  · rename_i h
    simp only [Rp, eq_iff_iff, false_iff]
    rintro ⟨q, e1, d, e2, _⟩
    exact h q d e1 e2
theorem rp_disp : Rp (mDisp mp st) kx e = Rp (mp st) (fun kvs st1 => kvs.length ≤ 15 ∧ kx (.dct (kvs.foldl (fun acc kv => dPut acc kv.1 kv.2) [])) st1) e := by
  unfold mDisp
  rw [rp_bind]
  congr 1
  funext kvs st1
  by_cases h : kvs.length ≤ 15
  · rw [if_pos h]
    simp only [h, true_and]
    rfl
  · rw [if_neg h]
    simp only [h, false_and]
    rfl
end
section
variable {mas : M (List EV)} {mg : EV → M Unit} {m1 : M Fl} {st : St} {kf : Fl → St → Prop} {e : Kv.Er → St → Prop}
theorem rp_enum_pk (I : List D → St → Prop) (h : Rp (mas st) (fun as st1 => ∃ a, as = [a] ∧ isSl a = false ∧ ∃ ds, peek st1 a = some (.lst ds) ∧ I (enumD 0 ds) st1 ∧ ∀ r st', I r st' → peek st' a = some (.lst ds)) e) (hs : ∀ d r st, I (d :: r) st → Rp (mg (.dat d) st) (fun _ st1 => Rp (m1 st1) (LpEnd (I r) kf) e) e) (hd : ∀ st, I [] st → kf .nx st) : Rp (mFor (mIEnum mas) mg m1 st) kf e := by
  unfold mFor mIEnum
  rw [rp_bind, rp_bind]
  refine rp_imp h (fun as st1 g => ?_) (fun _ _ z => z)
  obtain ⟨a, rfl, ns, ds, h1, h2, h3⟩ := g
  dsimp only
  rw [rp_ite, if_neg (by rw [ns]; decide), h1]
  dsimp only
  rw [rp_ok]
  exact rp_forR I h3 hs hd _ st1 h2
theorem rp_tup_it {ma : M EV} (I : List D → St → Prop) (h : Rp (ma st) (fun ev st1 => ∃ ds, ev = .dat (.tup ds) ∧ I ds st1) e) (hs : ∀ d r st, I (d :: r) st → Rp (mg (.dat d) st) (fun _ st1 => Rp (m1 st1) (LpEnd (I r) kf) e) e) (hd : ∀ st, I [] st → kf .nx st) : Rp (mFor (mITup ma) mg m1 st) kf e := by
  unfold mFor mITup
  rw [rp_bind, rp_bind]
  refine rp_imp h (fun ev st1 g => ?_) (fun _ _ z => z)
  obtain ⟨ds, rfl, h1⟩ := g
  dsimp only
  rw [rp_ok]
  exact rp_forR I (fun _ _ _ => trivial) hs hd ds st1 h1
end
theorem sqI {r : R Fl} {I : St → Prop} {kf : Fl → St → Prop} {e : Kv.Er → St → Prop} (h : RpI r (SqEnd I (fun _ _ => False)) (fun _ _ => False)) : Rp r (SqEnd I kf) e := sqW h.to
end Mi

set_option Elab.async false
set_option linter.all false
set_option maxRecDepth 100000
set_option maxHeartbeats 4000000
/-! Mi24: a try whose body is told apart -/
namespace Mi
open PySem PySem.Spec PyProof.Rows L2
theorem sS_tryE {K : Frag} {E : Kv.Er → L2.St → Hp → Prop} {t : TS} {c : Str → Addr} {xa : Addr} {ex : Kv.Er → Addr} {cv : Value} {i : Nat} {tb : WX → TS} {tsu : Addr → Value → Option Addr → TS} {Wout : WX} {mb : M Fl} {ms : Kv.Er → M Fl} {hit : Kv.Er → Bool}
    (hb : ∀ Wx : WX, SimS K (c, xa, false) (fun e σ H => Wx (.ref (ex e)) none σ H) (tb Wx) mb) (hs : ∀ a er, SimS K (c, a, false) EF (tsu a (.ref (ex er)) none) (ms er)) (hm : ∀ er, PySem.W.exmOne K (.ref (ex er)) cv = some (hit er))
    (e : t = fun D σ H => tb (wAs K cv i tsu Wout D) D σ H) (ho : ∀ e σ H, E e σ H → Wout (.ref (ex e)) none σ H) : SimS K (c, xa, false) E t (mTry i hit mb ms) := by
  subst e
  exact sS_try hb hs hm ho
theorem sS_tryOE {K : Frag} {E : Kv.Er → L2.St → Hp → Prop} {t : TS} {c : Str → Addr} {xa : Addr} {ex : Kv.Er → Addr} {cv : Value} {tb : WX → TS} {tsu : Addr → Value → Option Addr → TS} {Wout : WX} {mb : M Fl} {ms : Kv.Er → M Fl} {hit : Kv.Er → Bool}
    (hb : ∀ Wx : WX, SimS K (c, xa, false) (fun e σ H => Wx (.ref (ex e)) none σ H) (tb Wx) mb) (hs : ∀ a er, SimS K (c, xa, false) EF (tsu a (.ref (ex er)) none) (ms er)) (hm : ∀ er, PySem.W.exmOne K (.ref (ex er)) cv = some (hit er))
    (e : t = fun D σ H => tb (wOnly K cv tsu Wout D) D σ H) (ho : ∀ e σ H, E e σ H → Wout (.ref (ex e)) none σ H) : SimS K (c, xa, false) E t (mTryO hit mb ms) := by
  subst e
  exact sS_tryO hb hs hm ho
/-! ### a def by what holds of its end -/
def EndV (P : RF → Prop) : Fl → St → Prop
  | .nx, st => P (.ok (.dat .non) st.io st.S)
  | .ret (.dat d), st => P (.ok (.dat d) st.io st.S)
  | .ret (.tp b), st => P (.ok (.new b) st.io st.S)
  | .ret (.sl i), st => ∃ b, st.env[i]? = some (some (.own b)) ∧ P (.ok (.new b) st.io st.S)
  | _, _ => False
def ErrV (P : RF → Prop) : Kv.Er → St → Prop := fun x st => P (.err x st.io st.S)
theorem ev_nx {P : RF → Prop} {st : St} : EndV P .nx st = P (.ok (.dat .non) st.io st.S) := rfl
theorem ev_rt {P : RF → Prop} {d : D} {st : St} : EndV P (.ret (.dat d)) st = P (.ok (.dat d) st.io st.S) := rfl
theorem ev_tp {P : RF → Prop} {b : BX} {st : St} : EndV P (.ret (.tp b)) st = P (.ok (.new b) st.io st.S) := rfl
theorem ev_sl {P : RF → Prop} {i : Nat} {st : St} : EndV P (.ret (.sl i)) st = ∃ b, st.env[i]? = some (some (.own b)) ∧ P (.ok (.new b) st.io st.S) := rfl
theorem ev_er {P : RF → Prop} {x : Kv.Er} {st : St} : ErrV P x st = P (.err x st.io st.S) := rfl
theorem run_v {n : Nat} {ms : M Fl} {as : List AV} {io : List BX} {S : List Ob} {P : RF → Prop}
    (h : Rp (ms ⟨as.map (fun a => some a.sv) ++ List.replicate (n - as.length) none, io, S⟩) (EndV P) (ErrV P)) : P (runF n ms as io S) := by
  unfold runF
  cases e : ms ⟨as.map (fun a => some a.sv) ++ List.replicate (n - as.length) none, io, S⟩ with
  | stuck => rw [e] at h; exact h.elim
  | err x st => rw [e] at h; exact h
  | ok f st =>
    rw [e] at h
    cases f with
    | nx => exact h
    | brk => exact h.elim
    | cont => exact h.elim
    | ret ev =>
      cases ev with
      | dat d => exact h
      | tp b => exact h
      | sl i =>
        obtain ⟨b, e1, h⟩ := h
        dsimp only
        rw [e1]
        exact h
      | _ => exact h.elim
theorem run_vN {n : Nat} {ms : M Fl} {as : List AV} {io : List BX} {S : List Ob} {P : RF → Prop}
    (h : Rp (ms ⟨as.map (fun a => some a.sv) ++ List.replicate (n - as.length) none, io, S⟩) (EndV P) (fun _ _ => False)) : P (noErrF (runF n ms) as io S) := by
  have h2 : (∃ v io' S', runF n ms as io S = .ok v io' S') ∧ P (runF n ms as io S) := run_v (P := fun X => (∃ v io' S', X = .ok v io' S') ∧ P X) (rp_imp h (fun f st z => by
    cases f with
    | nx => exact ⟨⟨_, _, _, rfl⟩, z⟩
    | brk => exact z
    | cont => exact z
    | ret ev =>
      cases ev with
      | dat d => exact ⟨⟨_, _, _, rfl⟩, z⟩
      | tp b => exact ⟨⟨_, _, _, rfl⟩, z⟩
      | sl i =>
        obtain ⟨b, e1, z⟩ := z
        exact ⟨b, e1, ⟨_, _, _, rfl⟩, z⟩
      | _ => exact z) (fun _ _ z => z.elim))
  obtain ⟨⟨v, io', S', e⟩, h3⟩ := h2
  unfold noErrF
  rw [e] at h3 ⊢
  exact h3
/-- a call by what its end is -/
theorem rp_callV {n : Nat} {m : Fn} {evs : List EV} {st : St} {kx : EV ⊕ BX → St → Prop} {e : Kv.Er → St → Prop} {as : List AV} {P : RF → Prop} (h : P (m as [] st.S)) (hs : splitA st 0 evs = some (as, [], [])) (hn : as.length = n) (hk : ∀ X, P X → RpF X st kx e) : Rp (callR n m evs st) kx e := rp_callIs rfl hs hn (hk _ h)
end Mi

set_option Elab.async false
set_option linter.all false
set_option maxRecDepth 100000
set_option maxHeartbeats 4000000
/-! Mi25: a text with some of the error classes, which are caught and told -/
namespace Mi
open PySem PySem.Spec PyProof.Rows L2
open Kv (Er veChain)
def errOneQ (K : Frag) (a : Er → Addr) (b : Addr) (es : List Er) (e : Er) : Bool :=
  Kv.errAllP K a b [e] && (PySem.W.findIn K (.ref (a e)) "__getattribute__" == some (some (.builtin "BaseException.__getattribute__"))) && (PySem.W.findIn K (.ref (a e)) "__getattr__" == some none) && PySem.W.hasDictIn K (a e) &&
  (PySem.W.findIn K (.ref (a e)) "__class__" == some (some (.builtin "object.__class__"))) && (PySem.W.mroIn K (a e) (.type "object") == some true) && (es.all fun d => PySem.W.kitOne K (.ref (a e)) (.ref (a d)) == some (decide (e = d)))
def errAllQ (K : Frag) (a : Er → Addr) (b : Addr) (es : List Er) : Bool :=
  (PySem.W.specialIn K (.builtin "object.__class__") "__get__" == some (some (.builtin "getset_descriptor.__get__"))) && (PySem.W.takesIn K (.builtin "object.__class__") == some true) && Er.every.all (errOneQ K a b es)
structure ErrsQ (K : Frag) (mg : Str → Option Value) (es : List Er) where
  exa : Er → Addr
  exgP : ∀ e, e ∈ es → mg e.nm = some (.ref (exa e))
  a_BankError : Addr
  g_BankError : mg "BankError" = some (.ref a_BankError)
  exAll : errAllQ K exa a_BankError es = true
namespace ErrsQ
variable {K : Frag} {mg : Str → Option Value} {es : List Er} (T : ErrsQ K mg es)
theorem one (e : Er) : errOneQ K T.exa T.a_BankError es e = true := by
  have h := T.exAll
  unfold errAllQ at h
  simp only [Bool.and_eq_true, List.all_eq_true] at h
  exact h.2 e e.mem
theorem two (e : Er) : PySem.W.excIn K (T.exa e) veChain "ValueError.__new__" = true ∧ PySem.W.keepIn K (.ref (T.exa e)) = true ∧ PySem.W.subIn K (.ref (T.exa e)) (.type "BaseException") = some true ∧ PySem.W.typeIn K (.ref (T.exa e)) = some (.type "type") ∧
    PySem.W.exmOne K (.ref (T.exa e)) (.ref T.a_BankError) = some true := by
  have h := T.one e
  unfold errOneQ at h
  simp only [Bool.and_eq_true] at h
  have g : Kv.errAllP K T.exa T.a_BankError [e] = true := h.1.1.1.1.1.1
  unfold Kv.errAllP at g
  simp only [Bool.and_eq_true, List.all_eq_true, beq_iff_eq] at g
  obtain ⟨⟨⟨⟨h1, h2⟩, h3⟩, h4⟩, h5⟩ := g.2 e (List.mem_singleton.mpr rfl)
  exact ⟨h1, h2, h3, h4, h5⟩
theorem exg (e : Er) (he : e ∈ es := by decide) : mg e.nm = some (.ref (T.exa e)) := T.exgP e he
theorem exx (e : Er) : PySem.W.excIn K (T.exa e) veChain "ValueError.__new__" = true := (T.two e).1
theorem exk (e : Er) : PySem.W.keepIn K (.ref (T.exa e)) = true := (T.two e).2.1
theorem exb (e : Er) : PySem.W.subIn K (.ref (T.exa e)) (.type "BaseException") = some true := (T.two e).2.2.1
theorem ext (e : Er) : PySem.W.typeIn K (.ref (T.exa e)) = some (.type "type") := (T.two e).2.2.2.1
theorem exm (e : Er) : PySem.W.exmOne K (.ref (T.exa e)) (.ref T.a_BankError) = some true := (T.two e).2.2.2.2
theorem exc (e : Er) : ExcC K (T.exa e) := by
  have h := T.one e
  have g := T.exAll
  unfold errOneQ at h
  unfold errAllQ at g
  simp only [Bool.and_eq_true, List.all_eq_true, beq_iff_eq] at h g
  obtain ⟨⟨⟨⟨⟨⟨h1, h5⟩, h6⟩, h7⟩, h8⟩, h9⟩, h11⟩ := h
  exact ⟨h5, h6, T.exb e, h7, h8, g.1.1, g.1.2, h9⟩
theorem exi (e d : Er) (hd : d ∈ es := by decide) : PySem.W.kitOne K (.ref (T.exa e)) (.ref (T.exa d)) = some (decide (e = d)) := by
  have h := T.one e
  unfold errOneQ at h
  simp only [Bool.and_eq_true, List.all_eq_true, beq_iff_eq] at h
  exact h.2 d hd
end ErrsQ
/-! ### a def that is handed the error which a suite holds, and tells its class as a text -/
section
variable {P : Program} {w : World} {K : Frag} {mg : Str → Option Value} {base : Heap}
structure ClassG (P : Program) (w : World) (K : Frag) (mg : Str → Option Value) (base : Heap) (ex : Kv.Er → Addr) (cl : Kv.Er → Option Str) (lv : Nat) (f : Addr) (fd : FuncData) (pn : Str := "error") : Prop where
  run : ∀ (A : Around) (outer : List Env) (s : Shared) (H : Hp) (args : Args) (us : List Value) (Q : VK) (p : Addr × Obj) (er : Kv.Er), L2H.RoomH lv A → L2H.PinOk outer H s p → Zc (.ref (ex er)) none p.2 → (∃ vs, p.2.data = .fields vs) →
    Env0 P w K mg base A outer s H → BindsTo s fd args (([pn] : List Str).zip us) → Vals [.ref p.1] us → (∀ q, H q = none → Q (.str ((cl er).getD "odd")) (upd H q (.lst ((cl er).toList.map V.str)))) →
    codeAny (model P w) A (.call (.ref f) args) (CR CX0 outer P w H s Q E0) s
theorem class_ofG {nm pn : Str} {ex : Kv.Er → Addr} {cl : Kv.Er → Option Str} {lv : Nat} {f : Addr} {fd : FuncData} {st : Stmt} {N : List Str} (F : Fun K nm nm st f fd) (S : FnScope N [pn] (defScope st))
    (hb : ∀ (cdv : Value) (A : Around) (outer : List Env) (s : Shared) (H : Hp) (Q : VK) (p : Addr × Obj) (er : Kv.Er), Zc (.ref (ex er)) none p.2 → (∃ vs, p.2.data = .fields vs) → (∀ q, H q = none → Q (.str ((cl er).getD "odd")) (upd H q (.lst ((cl er).toList.map V.str)))) →
      ∃ t, PSs (L2H.cxH CX0 P w K mg base N nm (defScope st) f cdv A outer s H E0 p) (defBody st) t ∧ t { nx := fun _ H' => Q .non H', rt := Q } (start N [.ref p.1]) H) :
    ClassG P w K mg base ex cl (lv + 1) f fd pn := by
  obtain ⟨oc, od, kV, doc, pm, an, cdv, ct, osl, rfl, lk, hcd⟩ := F.ex
  refine ⟨fun A outer s H args us Q p er hr hpin hz hf e0 hbi r hk => ?_⟩
  have KX : K.In s.heap := e0.mod.kin.keeps fun b o e => (e0.bs b o e).1
  have lim : s.heap.NoLimit := e0.mod.nolimit.keeps fun b o e => (e0.bs b o e).1
  have kinds : ∀ y ∈ ([pn] : List Str).zip us, (defScope st).names.lookup y.1 = some .local ∨ ((defScope st).names.lookup y.1 = some .cell ∧ ((cellsFrom (s.heap.objs.size + 1) (defScope st).names []).lookup y.1).isSome = true) := by
    intro ⟨n, v⟩ hy
    rcases S.par n (List.of_mem_zip hy).1 with z | z
    · exact .inl z
    · exact .inr ⟨z, PySem.W.cellsFrom_some _ _ _ (.inl z)⟩
  refine codeAny_call_function hr.depth (KX _ _ lk) rfl S.co S.gen rfl (PySem.W.codeRec_of KX hcd) (hbi _ _ _ _ ?_)
  refine wpAny_newFunctionEnv_cells S.kind kinds fun env he s1 x => ?_
  subst he
  refine ⟨lim.keeps x.toInCall.keep, codeAny_func ?_⟩
  obtain ⟨t, ht, hq⟩ := hb cdv A outer s H Q p er hz hf hk
  have I := L2H.inv_startH (CX := CX0) (E := E0) S hpin e0 (show ([.ref p.1] : List V).length = ([pn] : List Str).length from rfl) r x
  refine wpAny_mono (ht.run [] s1 _ H _ I hq) (fun fl s' hs => ?_) fun e s' hs => hs
  have fin : ∀ {σ' : L2.St} {H' : Hp} {v : V} {u : Value}, L2.Inv _ [] σ' H' s' → RelV v u → Q v H' → CE outer P w H s Q u s' :=
    fun {σ' H' v u} (J : L2.Inv (L2H.cxH CX0 P w K mg base N nm (defScope st) f cdv A outer s H E0 p) [] σ' H' s') rv qq => ⟨v, H', J.os, J.bare, J.base, J.hok, rv, qq⟩
  cases fl with
  | next =>
    obtain ⟨σ', H', J, qq⟩ := hs
    exact fin (v := V.non) (u := Value.none) J rfl qq
  | ret u =>
    obtain ⟨v, σ', H', J, rv, qq⟩ := hs
    exact fin J rv qq
  | brk =>
    obtain ⟨_, _, _, qq⟩ := hs
    exact qq.elim
  | cont =>
    obtain ⟨_, _, _, qq⟩ := hs
    exact qq.elim
end
section
variable {X : Cx} {CX : CXT} {f : Addr} {fd : FuncData} {lv : Nat} {x : Str} {q pos : Pos} {e : Expr} {te : TE}
def tClassG (ex : Kv.Er → Addr) (cl : Kv.Er → Option Str) (cls : Value) (d : Option Addr) (a : Addr) (ta : TA) : TE := fun σ H Q => ta σ H fun vs H1 => vs = [.ref a] ∧ d = none ∧ ∃ er, cls = .ref (ex er) ∧ ∀ r, H1 r = none → Q (.str ((cl er).getD "odd")) (upd H1 r (.lst ((cl er).toList.map V.str)))
theorem pe_classG {pn : Str} {a : Addr} {oe : Obj} {cls : Value} {d : Option Addr} {P : Program} {w : World} {K : Frag} {mg : Str → Option Value} {base : Heap} {ex : Kv.Er → Addr} {cl : Kv.Er → Option Str} {ta : TA} (F : ClassG P w K mg base ex cl lv f fd pn) (hz : Zc cls d oe) (hf : ∃ vs, oe.data = .fields vs) (hp : (a, oe) ∈ X.pn) (hr : L2H.RoomH lv X.A) (hg : Gl X x)
    (hm : X.mg x = some (.ref f)) (hk : PySem.W.keepIn K (.ref f) = true) (hb : Binds K fd [pn] []) (ha : PA X [e] ta) (hP : X.prog = P := by rfl) (hw : X.w = w := by rfl) (hK : X.K = K := by rfl) (hM : X.mg = mg := by rfl) (hB : X.base = base := by rfl) (hdb : (x == ("__debug__" : Str)) = false := by decide)
    (he : starEach (e :: []) X.env = (false, eval e X.env) :: starEach [] X.env := by rfl) (hpl : (backTo pos (starEach [] X.env)).any (·.1) = false := by rfl) :
    PE X (.Call (.Name x q) [e] [] pos) (tClassG ex cl cls d a ta) := by
  subst hP hw hK hM hB
  refine ⟨fun pins s σ H Q I h => ?_⟩
  refine wpAny_Call_Name_kw (ld_glob I hg hm ?_ hdb)
  refine PySem.W.callWith_K (h₀ := X.base) I.ok.mod.kin hk (thn (ha.run pos pins s σ H _ I h) fun us s1 ⟨vs, H1, I1, r, e1, e2, er, e3, k⟩ => ⟨I1.kIn, ?_⟩) he hpl
  subst e1 e2 e3
  have P1 := I1.pin (a, oe) (List.mem_append.mpr (.inl hp))
  have hl : us.length = 1 := r.length.symm
  have b := hb s1 us I1.kIn (by rw [List.append_nil]; exact hl)
  rw [List.append_nil] at b
  have hpin : L2H.PinOk X.stack H1 s1 (a, oe) := ⟨P1.1, P1.2.1, fun hm => (List.mem_cons.mp (I1.stkSub a hm)).elim P1.2.2.1 P1.2.2.2.1, P1.2.2.2.2⟩
  refine wpAny_call (codeAny_mono (F.run _ X.stack s1 H1 ⟨us, []⟩ us Q (a, oe) er hr hpin hz hf I1.env0 b r k) fun r' s' hq => ?_)
  cases r' with
  | error e => exact False.elim hq
  | ok fl =>
    cases fl with
    | ret u => exact I1.after hq
    | next => exact False.elim hq
    | brk => exact False.elim hq
    | cont => exact False.elim hq
end
section
variable {K : Frag} {E : Kv.Er → L2.St → Hp → Prop} {ta : TE} {ma : M EV}
def mClassG (cl : Kv.Er → Option Str) (er : Kv.Er) (me : M EV) : M EV := fun st => (me st).bind fun ev st1 => match ev with
  | .exc => .ok (.dat (.str ((cl er).getD "odd"))) st1
  | _ => .stuck
theorem sE_classG {ex : Kv.Er → Addr} {cl : Kv.Er → Option Str} {c : Str → Addr} {a : Addr} {er : Kv.Er} (ha : SimE K (c, a, false) E ta ma) : SimE K (c, a, false) E (tClassG ex cl (.ref (ex er)) none a (tCons ta tNil)) (mClassG cl er ma) := by
  intro W σ H st I Q q
  refine ha W σ H st I _ (Res.imp (Res.bind q) fun ev st1 W1 H1 hm1 I1 x1 q1 v k => ?_)
  split at q1
  · have k : v = .ref W1.xa.1 := k
    refine ⟨by rw [k, I1.xeq], rfl, er, rfl, fun r hr => ?_⟩
    exact q1 _ _ (I1.new0 hr) (Ext.new0 hr) _ (.str _)
  · exact q1.elim
theorem rp_classG {cl : Kv.Er → Option Str} {er : Kv.Er} {st : St} {k : EV → St → Prop} {e : Kv.Er → St → Prop} : Rp (mClassG cl er ma st) k e = Rp (ma st) (fun ev st1 => ev = .exc ∧ k (.dat (.str ((cl er).getD "odd"))) st1) e := by
  unfold mClassG
  rw [rp_bind]
  congr 1
  funext ev st1
  cases ev <;> simp [Rp]
end
end Mi

set_option Elab.async false
set_option linter.all false
set_option maxRecDepth 100000
set_option maxHeartbeats 4000000
/-! Mi26: a list is emptied -/
namespace Mi
open PySem PySem.Spec PyProof.Rows L2
def fClear (xs ys : List D) : Option (List D × D) := match ys with
  | [] => some ([], .non)
  | _ => none
theorem pk_clear {K : Frag} : PkMut K rClear fClear := by
  intro W H p vs xs us ys zs d s h r ru e
  unfold fClear at e
  split at e
  · cases e
    cases ru
    exact ⟨[], .non, .nil, .non, fun Q q => ⟨p, vs, rfl, rfl, h, q⟩⟩
  · cases e
theorem clear_some {xs : List D} {z : List D × D} : (fClear xs [] = some z) = (([], D.non) = z) := by
  unfold fClear
  simp
section
variable {vs : List Nat} {mg : EV → M Unit} {me ma mb : M EV}
/-- a comprehension over a range with two bounds -/
theorem rp_lc_rng2 (lo n : Int) (I : Nat → List D → St → Prop) {st st0 : St} {kx : BX → St → Prop} {e : Kv.Er → St → Prop} (hn : -4611686018427387904 ≤ lo ∧ lo < 4611686018427387904 ∧ -4611686018427387904 ≤ n ∧ n < 4611686018427387904) (hm : n - lo ≤ 1000000) (ha : (mCons ma (mCons mb (M.pure []))) st = .ok [.dat (.int lo), .dat (.int n)] st0) (h0 : I 0 [] st0)
    (hs : ∀ (i : Nat) acc st, lo + (i : Int) < n → I i acc st → acc.length = i → Rp (mg (.dat (.int (lo + (i : Int)))) (st.wiped vs)) (fun _ st1 => Rp (me st1) (fun ev st2 => Rp (toD ev st2) (fun x st3 => I (i + 1) (acc ++ [x]) st3) noE) noE) noE)
    (hd : ∀ acc st1, I (n - lo).toNat acc st1 → acc.length = (n - lo).toNat → kx (.lst acc) { st1 with env := restE st0.env st1.env vs }) : Rp (mLc vs (mIRng2 (mCons ma (mCons mb (M.pure [])))) mg (M.pure true) me st) kx e := by
  have hz : sizeLine = 16777216 := by decide
  have hlen : (rngD lo (n - lo).toNat).length = (n - lo).toNat := by simp [rngD]
  refine rp_lc_of (it := ⟨rngD lo (n - lo).toNat, fun _ => True⟩) (st0 := st0) ?_ ?_
  · unfold mIRng2
    rw [ha]
    simp only [R.bind]
    rw [if_pos (show -2 ^ 62 ≤ lo ∧ lo < 2 ^ 62 ∧ -2 ^ 62 ≤ n ∧ n < 2 ^ 62 from hn)]
  · refine rp_lcL I _ 0 [] st0 h0 rfl (by rw [hlen]; omega) (fun _ _ _ _ => trivial) (fun i d acc st _ ed g hl => ?_) (fun acc st g hl => hd acc st ?_ ?_)
    · obtain ⟨rfl, hi⟩ := rng_get ed
      exact hs i acc st (by omega) g hl
    · rw [Nat.zero_add, hlen] at g
      exact g
    · rw [Nat.zero_add, hlen] at hl
      exact hl
end
end Mi

set_option Elab.async false
set_option linter.all false
set_option maxRecDepth 100000
set_option maxHeartbeats 4000000
/-! Mi27: `len(set(xs))` of a list of texts, however many and however alike -/
namespace MiSet
open PySem PySem.Spec PyProof.Rows
/-- how many different ones -/
def nd {K : Type} [DecidableEq K] : List K → Nat
  | [] => 0
  | x :: r => if x ∈ r then nd r else nd r + 1
theorem nd_le {K : Type} [DecidableEq K] : ∀ l : List K, nd l ≤ l.length
  | [] => Nat.le_refl _
  | x :: r => by
    have := nd_le r
    unfold nd
    split <;> simp only [List.length_cons] <;> omega
theorem nd_all {K : Type} [DecidableEq K] : ∀ {l : List K}, l.Nodup → nd l = l.length
  | [], _ => rfl
  | x :: r, h => by
    obtain ⟨h1, h2⟩ := List.nodup_cons.mp h
    unfold nd
    rw [if_neg h1, nd_all h2]
    rfl
section
variable {prog : Program} {w : World} {K : Type} [DecidableEq K] {knd : KeyKind prog w K}
/-- the set at a holds the keys of l -/
def Holds (knd : KeyKind prog w K) (h : Heap) (a : Addr) (l : List K) : Prop := h.SetOf knd a (fun k => decide (k ∈ l)) (nd l)
theorem Holds.keep {h h' : Heap} {a : Addr} {l : List K} (x : Holds knd h a l) (e : ∀ o, h.get? a = some o → h'.get? a = some o) : Holds knd h' a l := by
  obtain ⟨o, es, ep, t, ho, r⟩ := x
  exact ⟨o, es, ep, t, e o ho, r⟩
variable {A : Around} {E : Value → Shared → Prop} {s : Shared}
theorem Holds.put {a : Addr} {l : List K} {k : K} {v : Value} {Q : Bool → Shared → Prop} (x : Holds knd s.heap a l) (hv : knd.is k v = true) (hs : v.scannable = true) (hr : l.length + 1 < scanBound)
    (h : ∀ b h' tk, s.toks ≤ tk → Heap.SameBut a s.heap h' → Holds knd h' a (k :: l) → Q b { s with heap := h', toks := tk }) : wpAny (model prog w) A (setAdd a v) Q E s := by
  unfold setAdd
  refine wpAny_holding (wpAny_bind (knd.pyHash hv ?_))
  have hn := nd_le l
  refine wpAny_setAddHashed_of (s := { s with toks := s.toks + 1 }) hv hs x (by omega) fun h' sb y => h _ h' _ (Nat.le_succ _) sb ?_
  have e1 : (fun k' => decide (k' ∈ l) || decide (k' = k)) = fun k' => decide (k' ∈ k :: l) := by
    funext k'
    rw [Bool.eq_iff_iff]
    simp only [Bool.or_eq_true, decide_eq_true_eq, List.mem_cons]
    exact Or.comm
  have e2 : (if decide (k ∈ l) = true then nd l else nd l + 1) = nd (k :: l) := by
    show _ = if k ∈ l then nd l else nd l + 1
    by_cases m : k ∈ l
    · rw [if_pos m, if_pos (decide_eq_true m)]
    · rw [if_neg m, if_neg (by simpa using m)]
  unfold Holds
  rw [← e1, ← e2]
  exact y
end
section
variable {prog : Program} {w : World} {K : Type} [DecidableEq K] {knd : KeyKind prog w K} {A : Around} {R : Result → Shared → Prop} {I S : Addr} {fp wr : List Addr} {G : Array GenState → Array GenState → Prop} {n : Nat} {P : Nat → Value → Prop} {St : Nat → Shared → Prop}
/-- what is still to come is put into the set, one by one -/
theorem fill {ks : List K} (W : WalksS prog w A.in1 I fp wr G n P St) (apart : S ∉ fp) (val : ∀ i v, P i v → ∃ k, ks[i]? = some k ∧ knd.is k v = true ∧ v.scannable = true) (hn : ks.length = n) (hb : n + 1 < scanBound) :
    ∀ (rest done : List K) (s : Shared), ks = done ++ rest → St done.length s → Holds knd s.heap S done.reverse →
      (∀ s', Moved (S :: wr) G s s' → Holds knd s'.heap S ks.reverse → R (.ok (.ret .none)) s') → codeAny (model prog w) A (.builtin "set.update.loop" ⟨[.ref S, .ref I], []⟩) R s
  | [], done, s, e, st, hs, q => by
    rw [List.append_nil] at e
    subst e
    refine codeAny_builtin PyProof.Rows.F.entry_set_update_loop ?_
    rw [Around.under_plainId PyProof.Rows.F.plain_set_update_loop _]
    show wpAny _ A.in1 (pyNext (.ref I) >>= _) _ _ s
    rw [hn] at st
    refine wpAny_bind (W.done s _ _ st fun s' m => wpAny_pure (q s' ?_ ?_))
    · exact ⟨fun b o hb => m.heap b o fun hh => hb (List.mem_cons_of_mem _ hh), m.gens, m.drawn, m.os, m.toks⟩
    · exact hs.keep fun o => m.heap S o fun hh => apart (W.sub _ hh)
  | x :: rest, done, s, e, st, hs, q => by
    have hlt : done.length < n := by
      rw [← hn, e]
      simp only [List.length_append, List.length_cons]
      omega
    refine codeAny_builtin PyProof.Rows.F.entry_set_update_loop ?_
    rw [Around.under_plainId PyProof.Rows.F.plain_set_update_loop _]
    show wpAny _ A.in1 (pyNext (.ref I) >>= _) _ _ s
    refine wpAny_bind (W.item _ s _ _ hlt st fun v s1 hP st1 m => ?_)
    obtain ⟨k, hk, hv, hsc⟩ := val _ v hP
    have ek : k = x := by
      rw [e, List.getElem?_append_right (Nat.le_refl _), Nat.sub_self] at hk
      exact (Option.some.inj hk).symm
    subst ek
    refine wpAny_bind (wpAny_holding (Holds.put (s := s1) (hs.keep fun o => m.heap S o fun hh => apart (W.sub _ hh)) hv hsc (by rw [List.length_reverse]; omega) fun b h' tk ht sb hs' => ?_))
    refine wpAny_pure ⟨plainId_quiet PyProof.Rows.F.plain_set_update_loop _, ?_⟩
    refine fill W apart val hn hb rest (done ++ [k]) _ (by rw [e, List.append_assoc]; rfl) ?_ (by rw [List.reverse_append]; exact hs') fun s2 m2 hs2 => q s2 ?_ hs2
    · rw [List.length_append]
      exact W.frame _ s1 _ _ st1 ht fun b hb o hg => by
        rw [sb.2 b fun hh : b = S => apart (hh ▸ hb)]
        exact hg
    · refine Moved.trans W.gtrans ?_ m2
      refine ⟨fun b o hb hg => ?_, m.gens, m.drawn, m.os, Nat.le_trans m.toks ht⟩
      show h'.get? b = some o
      rw [sb.2 b fun hh => hb (hh ▸ List.mem_cons_self)]
      exact m.heap b o (fun hh => hb (List.mem_cons_of_mem _ hh)) hg
end
section
variable {prog : Program} {w : World} {K : Type} [DecidableEq K] {knd : KeyKind prog w K} {A : Around} {E : Value → Shared → Prop} {s : Shared}
/-- an empty set -/
abbrev bare (led : Bool) : Obj := { cls := .type "set", dict := none, data := .set #[] 0 (.fresh 0 0 led) }
theorem bare_holds {h : Heap} {a : Addr} {led : Bool} (e : h.get? a = some (bare led)) : Holds knd h a [] :=
  ⟨_, #[], 0, _, e, ⟨rfl, rfl, rfl⟩, rfl, fun _ hm => by simp at hm, fun k => by simp, by decide, by rfl, rfl⟩
/-- `__init__` of an empty set, with a list -/
theorem init_list {a l : Addr} {items : Array Value} {led : Bool} {ks : List K} {Q : Value → Shared → Prop} (hh : A.handled = none) (ha : s.heap.get? a = some (bare led)) (hl : s.heap.IsList l items) (hal : a ≠ l) (hn : ks.length = items.size) (hb : items.size + 1 < scanBound)
    (val : ∀ (i : Nat) v, items[i]? = some v → ∃ k, ks[i]? = some k ∧ knd.is k v = true ∧ v.scannable = true)
    (h : ∀ h' tk, Holds knd h' a ks.reverse → (∀ b o, b < s.heap.objs.size → b ≠ a → s.heap.get? b = some o → h'.get? b = some o) → Q .none { s with heap := h', toks := tk }) :
    codeAny (model prog w) A (.call (.builtin "set.__init__") ⟨[.ref a, .ref l], []⟩) (wants Q E) s := by
  have hT : s.TypeIs (.ref a) "set" := ⟨_, ha, rfl⟩
  have hla : l < s.heap.objs.size := by
    obtain ⟨o, ho, _⟩ := hl
    exact Heap.lt_size ho
  have haa : a < s.heap.objs.size := Heap.lt_size ha
  refine codeAny_call_builtin PySem.F.called_set.init.plain PySem.F.entry_set_init (check_set_init_1 hT ?_)
  have h1 := PySem.F.sub_list_set
  have h2 := PySem.F.sub_list_frozenset
  have h3 : (Value.type "list" == Value.type "dict") = false := by decide
  have hl2 := hl
  obtain ⟨⟨c, d, dt, sl⟩, ho, hc, n, hd⟩ := hl
  simp only at hc hd
  subst hc
  subst hd
  unfold Builtin.«set.__init__» noKeywords Builtin.Frozenset.updateFrom
  generalize hPI : pyIter = PI
  wp_walk
  subst hPI
  refine wpAny_pyIter_list hl2 ?_
  refine wpAny_bind (wpAny_runValue ?_)
  have hi : A.in1.in1.handled = none := by simp [hh]
  have e1 : l ≠ s.heap.objs.size := Nat.ne_of_lt hla
  have e2 : a ≠ s.heap.objs.size := Nat.ne_of_lt haa
  refine fill (knd := knd) ((Walks.list hi _ l e1 items).toS) (S := a) (by simp [hal, e2]) val hn hb ks [] _ rfl ?_ ?_ fun s1 m hs => ?_
  · exact ⟨⟨_, Heap.get?_push_size _ rfl, rfl, rfl⟩, hl2.push _⟩
  · exact bare_holds (led := led) (Heap.get?_push_of_some _ ha)
  have q := h s1.heap s1.toks hs fun b o hb hne e => m.heap b o (by simp [hne, Nat.ne_of_lt hb]) (Heap.get?_push_of_some _ e)
  have e3 : s1 = { s with heap := s1.heap, toks := s1.toks } := by
    have g1 := m.gens
    have g2 := m.drawn
    have g3 := m.os
    cases s1
    cases s
    simp only at g1 g2 g3
    rw [g1, g2, g3]
  show wpAny _ _ _ _ _ _
  refine wpAny_pure ?_
  show wpAny _ _ (ret Value.none) _ _ _
  refine wpAny_pure ?_
  show Q .none s1
  rw [e3]
  exact q
/-- set(xs) of a list -/
theorem set_of {l : Addr} {items : Array Value} {ks : List K} {Q : Value → Shared → Prop} (hh : A.handled = none) (hl : s.heap.IsList l items) (hn : ks.length = items.size) (hb : items.size + 1 < scanBound)
    (val : ∀ (i : Nat) v, items[i]? = some v → ∃ k, ks[i]? = some k ∧ knd.is k v = true ∧ v.scannable = true)
    (h : ∀ a h' tk, Holds knd h' a ks.reverse → (∀ b o, s.heap.get? b = some o → h'.get? b = some o) → Q (.ref a) { s with heap := h', toks := tk }) :
    wpAny (model prog w) A (call (.type "set") [.ref l]) Q E s := by
  have hla : l < s.heap.objs.size := by
    obtain ⟨o, ho, _⟩ := hl
    exact Heap.lt_size ho
  obtain ⟨c, tl, hmro⟩ := PySem.F.called_set.mro
  have f1 := PySem.F.called_set.made
  have f2 := PySem.F.called_set.sub
  have f3 := PySem.F.called_set.notType
  have f4 := PySem.F.called_set.canCreate
  have f5 := PySem.F.typeCall_set_1 (.ref l)
  refine wpAny_call (codeAny_of_tree ?_)
  show wpAny _ _ (callAny (.type "set") _) _ _ _
  refine wpAny_pure ⟨Code.quiet_builtin _ (by decide +kernel), codeAny_builtin PySem.F.entry_type_call ?_⟩
  rw [Around.under_plain (weight_type_call_type "set" [.ref l] []) rfl]
  repeat (any_goals (first | assumption | wp_step))
  refine codeAny_mono (code_set_new_1 (.ref l) (E := E) (Q₁ := fun v s1 => ∃ led : Bool, v = .ref s.heap.objs.size ∧ s1 = { s with heap := s.heap.push (bare led) }) fun led => ⟨led, rfl, rfl⟩) fun r s1 hr => ?_
  rcases r with e | (v | _) <;> try exact hr
  obtain ⟨led, rfl, rfl⟩ := hr
  have g1 : (s.heap.push (bare led)).get? s.heap.objs.size = some (bare led) := Heap.get?_push_size _ rfl
  have hT : Shared.TypeIs { s with heap := s.heap.push (bare led) } (.ref s.heap.objs.size) "set" := ⟨_, g1, rfl⟩
  have f6 := PySem.F.called_set.init.lookup
  have f7 := PySem.F.called_set.init.bind (.ref s.heap.objs.size)
  repeat (any_goals (first | assumption | wp_step))
  refine codeAny_mono (init_list (knd := knd) (s := { s with heap := s.heap.push (bare led) }) (E := E) (Q := fun v s2 => v = .none ∧ ∃ h' tk, s2 = { s with heap := h', toks := tk } ∧ Holds knd h' s.heap.objs.size ks.reverse ∧ ∀ b o, s.heap.get? b = some o → h'.get? b = some o)
    ?_ g1 (hl.push _) (Nat.ne_of_gt hla) hn hb val fun h' tk x y => ⟨rfl, h', tk, rfl, x, fun b o e => ?_⟩) fun r2 s2 hr2 => ?_
  · simp [hh]
  · exact y b o (by rw [Heap.size_push]; exact Nat.lt_succ_of_lt (Heap.lt_size e)) (Nat.ne_of_lt (Heap.lt_size e)) (Heap.get?_push_of_some _ e)
  · rcases r2 with e | (v | _) <;> try exact hr2
    obtain ⟨rfl, h', tk, rfl, x, y⟩ := hr2
    repeat (any_goals (first | assumption | wp_step))
    exact h _ _ _ x y
end
end MiSet

namespace Mi
open PySem PySem.Spec PyProof.Rows L2 MiSet
def rLenSet (K : Frag) : List V → Hp → VK → Prop := fun vs H Q => ∃ l, ∃ xs : List Str, vs = [V.ref l] ∧ SqL K H l (xs.map V.str) ∧ xs.length < 4000 ∧ Q (.int (nd xs.reverse : Nat)) H
theorem pe_lenSetS {X : Cx} {a : Expr} {ta : TA} {p p2 q pos : Pos} (hc : X.calm = true) (hg : Gl X "len") (hm : X.mg "len" = none) (hg2 : Gl X "set") (hm2 : X.mg "set" = none) (ha : PA X [a] ta)
    (na : starEach [a] X.env = (false, eval a X.env) :: starEach [] X.env := by rfl) : PE X (.Call (.Name "len" p) [.Call (.Name "set" p2) [a] [] q] [] pos) (tCB (rLenSet X.K) ta) := by
  refine ⟨fun pins s σ H Q I h => ?_⟩
  refine Call_ (ld_blt I hg hm boot_len ?_)
  refine PyProof.Rows.callWith_builtin1 (PyProof.Rows.args_cons ?_ rfl) rfl rfl
  refine Call_ (ld_blt I hg2 hm2 boot_set ?_)
  refine PyProof.Rows.callWith_type1 (thn (ha.run q pins s σ H _ I h) fun us s1 ⟨vs, H1, I1, r1, q1⟩ => ?_) na rfl
  obtain ⟨l, xs, rfl, hq, hz, q1⟩ := q1
  obtain ⟨u, rfl, ru⟩ := vals1 r1
  cases ru
  obtain ⟨its, r, pl, _⟩ := I1.list hq
  have hl : its.length = xs.length := by rw [← r.length, List.length_map]
  refine set_of (knd := PySem.strKind X.prog X.w) (ks := xs) (I1.ok.hd hc) pl.isList (by rw [List.size_toArray, hl]) (by rw [List.size_toArray, hl]; unfold scanBound; omega) ?_ fun b h' tk hs hk => ?_
  · intro i v hv
    have hv' : its[i]? = some v := by simpa using hv
    obtain ⟨hi, _⟩ := List.getElem?_eq_some_iff.mp hv'
    rw [hl] at hi
    obtain ⟨u, hu, t, hu'⟩ := r.get (i := i) (x := .str xs[i]) (by simp [hi])
    rw [hv'] at hu
    cases hu
    subst hu'
    exact ⟨xs[i], List.getElem?_eq_getElem hi, strKind_is _ _ _ _, rfl⟩
  · refine PyProof.Rows.args_nil ?_
    obtain ⟨o, es, ep, t, ho, hex, hd, _, _, _, hf, hn⟩ := hs
    have I2 : L2.Inv X pins σ H1 { s1 with heap := h', toks := tk } := I1.kept hk
    have hn2 := nd_le xs.reverse
    rw [List.length_reverse] at hn2
    exact call_len_set ho hex hd hf (by rw [hn]; omega) ⟨.int (nd xs.reverse : Nat), H1, I2.tok _, ⟨_, by rw [hn]⟩, q1⟩
/-- the texts of a list -/
def strsOf : List D → Option (List Str)
  | [] => some []
  | .str z :: r => (strsOf r).map (z :: ·)
  | _ => none
theorem strsOf_some : ∀ {ds : List D} {xs : List Str}, strsOf ds = some xs → ds = xs.map D.str
  | [], xs, e => by cases e; rfl
  | d :: r, xs, e => by
    cases d <;> simp only [strsOf, Option.map_eq_some_iff, reduceCtorEq] at e
    obtain ⟨ys, e1, rfl⟩ := e
    rw [strsOf_some e1]
    rfl
theorem strsOf_map : ∀ xs : List Str, strsOf (xs.map D.str) = some xs
  | [] => rfl
  | x :: r => by
    show (strsOf (r.map D.str)).map (x :: ·) = _
    rw [strsOf_map r]
    rfl
def fLenSet : List D → Option D
  | [.lst ds] => match strsOf ds with
    | some xs => if xs.length < 4000 then some (.int (nd xs.reverse : Nat)) else none
    | none => none
  | _ => none
theorem lenSet_some {xs : List Str} {d : D} : (fLenSet [.lst (xs.map D.str)] = some d) = (.int (nd xs.reverse : Nat) = d ∧ xs.length < 4000) := by
  have e : fLenSet [.lst (xs.map D.str)] = if xs.length < 4000 then some (.int (nd xs.reverse : Nat)) else none := by
    show (match strsOf (xs.map D.str) with
      | some xs => if xs.length < 4000 then some (D.int (nd xs.reverse : Nat)) else none
      | none => none) = _
    rw [strsOf_map]
  rw [e]
  split <;> simp [*]
theorem reps_strs {K : Frag} {F : Hp} {ρ : List Addr} : ∀ {xs : List Str} {vs : List V}, RepL K F ρ vs (xs.map D.str) → vs = xs.map V.str
  | [], _, h => by cases h; rfl
  | x :: r, _, h => by
    cases h with
    | cons a b =>
      cases a
      rw [reps_strs b]
      rfl
theorem pk_lenSet {K : Frag} : PkC K (rLenSet K) fLenSet := by
  intro W H vs ds d s ks e
  unfold fLenSet at e
  split at e
  · rename_i ys
    split at e
    · rename_i xs hx
      split at e
      · rename_i hz
        cases e
        cases ks with
        | cons k t =>
          cases t
          obtain ⟨a, us, rfl, q, r⟩ := k
          rw [strsOf_some hx] at r
          rw [reps_strs r] at q
          exact ⟨_, .int _, fun Q k => ⟨a, xs, rfl, q, hz, k⟩⟩
      · cases e
    · cases e
  · cases e
end Mi

set_option Elab.async false
set_option linter.all false
set_option maxRecDepth 100000
set_option maxHeartbeats 4000000
/-! Mi28: a comprehension over a tuple -/
namespace Mi
open PySem PySem.Spec PyProof.Rows L2
section
variable {vs : List Nat} {ma : M EV} {mg : EV → M Unit} {mt : M Bool} {me : M EV} {st : St} {e : Kv.Er → St → Prop}
open Classical in
theorem rp_lc_tup (I : List D → List D → St → Prop) {ds : List D} {st0 : St} {kx : BX → St → Prop} (h1 : ma st = .ok (.dat (.tup ds)) st0) (h0 : I ds [] st0)
    (hs : ∀ d r acc st', I (d :: r) acc st' → Rp (mg (.dat d) (st'.wiped vs)) (fun _ st1 => Rp (mt st1) (fun b st2 => if b = true then Rp (me st2) (fun ev st3 => Rp (toD ev st3) (fun x st4 => acc.length < sizeLine ∧ I r (acc ++ [x]) st4) (fun _ _ => False)) (fun _ _ => False) else I r acc st2) (fun _ _ => False)) (fun _ _ => False))
    (hd : ∀ acc st', I [] acc st' → kx (.lst acc) { st' with env := restE st0.env st'.env vs }) : Rp (mLc vs (mITup ma) mg mt me st) kx e := by
  refine rp_lcF (it := ⟨ds, fun _ => True⟩) (st0 := st0) ?_ ?_
  · unfold mITup
    rw [h1]
    rfl
  · exact rp_lcFl I (fun _ _ _ _ => trivial) hs (fun acc st' g => hd acc st' g) ds [] st0 h0
open Classical in
/-- over a range, with a filter -/
theorem rp_lc_rngF (n : Int) (I : Nat → List D → St → Prop) {st0 : St} {kx : BX → St → Prop} (hn : -4611686018427387904 ≤ n ∧ n < 4611686018427387904) (ha : ma st = .ok (.dat (.int n)) st0) (h0 : I 0 [] st0)
    (hs : ∀ (i : Nat) acc st', (i : Int) < n → I i acc st' → Rp (mg (.dat (.int (i : Int))) (st'.wiped vs)) (fun _ st1 => Rp (mt st1) (fun b st2 => if b = true then Rp (me st2) (fun ev st3 => Rp (toD ev st3) (fun x st4 => acc.length < sizeLine ∧ I (i + 1) (acc ++ [x]) st4) (fun _ _ => False)) (fun _ _ => False) else I (i + 1) acc st2) (fun _ _ => False)) (fun _ _ => False))
    (hd : ∀ acc st', I n.toNat acc st' → kx (.lst acc) { st' with env := restE st0.env st'.env vs }) : Rp (mLc vs (mIRng1 (mCons ma (M.pure []))) mg mt me st) kx e := by
  have hlen : (rngD 0 n.toNat).length = n.toNat := by simp [rngD]
  refine rp_lcF (it := ⟨rngD 0 n.toNat, fun _ => True⟩) (st0 := st0) ?_ ?_
  · unfold mIRng1 mCons
    rw [ha]
    simp only [R.bind, notTp, if_true, M.pure]
    rw [if_pos (show -2 ^ 62 ≤ n ∧ n < 2 ^ 62 from hn)]
  · refine rp_lcFl (fun r acc st' => ∃ i, r = (rngD 0 n.toNat).drop i ∧ i ≤ n.toNat ∧ I i acc st') (fun _ _ _ _ => trivial) (fun d r acc st' g => ?_) (fun acc st' g => ?_) _ [] st0 ⟨0, rfl, Nat.zero_le _, h0⟩
    · obtain ⟨i, hr, hi, g⟩ := g
      have hl : i < (rngD 0 n.toNat).length := by
        have := congrArg List.length hr
        rw [List.length_cons, List.length_drop] at this
        omega
      rw [List.drop_eq_getElem_cons hl] at hr
      injection hr with e1 e2
      obtain ⟨e3, _⟩ := rng_get (List.getElem?_eq_getElem hl)
      rw [← e1] at e3
      subst e3
      have hlt : i < n.toNat := by omega
      have := hs i acc st' (by omega) g
      rw [Int.zero_add]
      refine rp_imp this (fun _ st1 h1 => rp_imp h1 (fun b st2 h2 => ?_) fun _ _ z => z) fun _ _ z => z
      by_cases c : b = true
      · rw [if_pos c] at h2 ⊢
        exact rp_imp h2 (fun ev st3 h3 => rp_imp h3 (fun x st4 h4 => ⟨h4.1, i + 1, e2, by omega, h4.2⟩) fun _ _ z => z) fun _ _ z => z
      · rw [if_neg c] at h2 ⊢
        exact ⟨i + 1, e2, by omega, h2⟩
    · obtain ⟨i, hr, hi, g⟩ := g
      have : n.toNat ≤ i := by
        have := congrArg List.length hr
        rw [List.length_nil, List.length_drop, hlen] at this
        omega
      rw [show i = n.toNat by omega] at g
      exact hd acc st' g
end
end Mi

set_option Elab.async false
set_option linter.all false
set_option maxRecDepth 100000
set_option maxHeartbeats 4000000
/-! Mi29: list(xs) inside a try; a loop's name set without running what follows -/
namespace Mi
open PySem PySem.Spec PyProof.Rows L2
theorem call_listK (K : Frag) {X : Cx} (h : X.K = K := by rfl) : CallR X (.type "list") (fun xs H Q => ∃ p ys, xs = [.ref p] ∧ (SqL K H p ys ∨ SqT K H p ys) ∧ ∀ l, H l = none → Q (.ref l) (upd H l (.lst ys))) := by subst h; exact call_list_of
theorem nmD {i : Nat} {d : D} {st : St} {k : Unit → St → Prop} {e : Kv.Er → St → Prop} (h : k () { st with env := st.env.set i (some (.dat d)) }) : Rp (mgName i (.dat d) st) k e := by
  unfold mgName
  exact h
/-- the name of a loop is set, then a part that is told apart -/
theorem nmB {i : Nat} {d : D} {st st1 : St} {B : M Fl} {I : St → Prop} {kf : Fl → St → Prop} {e : Kv.Er → St → Prop} (hs : { st with env := st.env.set i (some (.dat d)) } = st1) (h : RpI (B st1) (LpEnd I (fun _ _ => False)) (fun _ _ => False)) : Rp (mgName i (.dat d) st) (fun _ st2 => Rp (B st2) (LpEnd I kf) e) e := by
  refine nmD ?_
  rw [hs]
  exact lpW (RpI.to h)
end Mi

set_option Elab.async false
set_option linter.all false
set_option maxRecDepth 100000
set_option maxHeartbeats 4000000
/-! Mi30: a slice inside a comprehension or a try -/
namespace Mi
open PySem PySem.Spec PyProof.Rows L2
theorem slt (K : Frag) {X : Cx} (h : X.K = K := by rfl) : SlR X (rSlT K) := by subst h; exact sl_tup
theorem sll (K : Frag) {X : Cx} (h : X.K = K := by rfl) : SlR X (rSlL K) := by subst h; exact sl_list
end Mi

set_option Elab.async false
set_option linter.all false
set_option autoImplicit false
set_option maxRecDepth 100000
set_option maxHeartbeats 4000000
namespace Mi
open PySem PySem.Spec PyProof.Rows L2
/-- a method with no argument inside a try -/
theorem pe_bm0T (K : Frag) {X : Cx} {T name id : String} {r : V → List V → Hp → VK → Prop} {o : Expr} {to : TE} {apos cpos : Pos} (pa : PlainAttrs T) (slot : Slot T name id) (hty : typeOf (.builtin id) = pure (.type "method_descriptor")) (hm : MtR X id r) (ho : PE X o to)
    (hbase : attributeBase o name X.env (eval o X.env) = eval o X.env := by rfl) (hline : (apos.endLine == cpos.line) = true := by rfl) (h : X.K = K := by rfl) :
    PE X (.Call (.Attribute o name apos) [] [] cpos) (tBM0 K T r to) := by subst h; exact pe_bm0 pa slot hty hm ho hbase hline
end Mi

set_option Elab.async false
set_option linter.all false
set_option autoImplicit false
set_option maxRecDepth 100000
set_option maxHeartbeats 4000000
/-! Mi32: a list compared with an empty one, whatever its items are -/
namespace Mi
open PySem PySem.Spec PyProof.Rows L2
def rEqE (K : Frag) : R2 := fun x y H Q => ∃ p q xs ys, x = .ref p ∧ y = .ref q ∧ SqL K H p xs ∧ SqL K H q ys ∧ (xs.length = 0 ∨ ys.length = 0) ∧ Q (.bl (decide (xs.length = ys.length))) H
def rNeE (K : Frag) : R2 := fun x y H Q => ∃ p q xs ys, x = .ref p ∧ y = .ref q ∧ SqL K H p xs ∧ SqL K H q ys ∧ (xs.length = 0 ∨ ys.length = 0) ∧ Q (.bl (!decide (xs.length = ys.length))) H
section
variable {X : Cx}
theorem op_eqE (hu : X.A.units + 64 < cLine) : OpR X (compareOp .Eq) (rEqE X.K) := by
  intro pins s σ H x y v u Q I rx ry h
  obtain ⟨p, q, xs, ys, rfl, rfl, hx, hy, he, hq⟩ := h
  obtain rfl : v = Value.ref p := rx
  obtain rfl : u = Value.ref q := ry
  obtain ⟨us, r1, p1, _⟩ := I.list hx
  obtain ⟨ws, r2, p2, _⟩ := I.list hy
  have s1 : us.toArray.size = xs.length := by rw [List.size_toArray, ← r1.length]
  have s2 : ws.toArray.size = ys.length := by rw [List.size_toArray, ← r2.length]
  by_cases c : xs.length = ys.length
  · have h := SeqAt.RcAt.lists (A := X.A) (s := s) (e := fun _ => true) p1.isList p2.isList (by rw [s1, s2, c]) (by omega) (fun j h1 h2 => by omega)
    rw [show ((List.range us.toArray.size).all fun _ => true) = true from List.all_eq_true.mpr fun _ _ => rfl] at h
    rw [decide_eq_true c] at hq
    exact h _ _ _ _ ⟨.bl true, H, I, rfl, hq⟩
  · have h := SeqAt.RcAt.lists_lengths (A := X.A) (s := s) p1.isList p2.isList (by rw [s1, s2]; simpa using c) (by omega)
    rw [decide_eq_false c] at hq
    exact h _ _ _ _ ⟨.bl false, H, I, rfl, hq⟩
theorem op_neE (hu : X.A.units + 64 < cLine) : OpR X (compareOp .NotEq) (rNeE X.K) := by
  intro pins s σ H x y v u Q I rx ry h
  obtain ⟨p, q, xs, ys, rfl, rfl, hx, hy, he, hq⟩ := h
  obtain rfl : v = Value.ref p := rx
  obtain rfl : u = Value.ref q := ry
  obtain ⟨us, r1, p1, _⟩ := I.list hx
  obtain ⟨ws, r2, p2, _⟩ := I.list hy
  have s1 : us.toArray.size = xs.length := by rw [List.size_toArray, ← r1.length]
  have s2 : ws.toArray.size = ys.length := by rw [List.size_toArray, ← r2.length]
  by_cases c : xs.length = ys.length
  · have h := SeqAt.RcNeAt.lists (A := X.A) (s := s) (e := fun _ => true) p1.isList p2.isList (by rw [s1, s2, c]) (by omega) (fun j h1 h2 => by omega)
    rw [show ((List.range us.toArray.size).all fun _ => true) = true from List.all_eq_true.mpr fun _ _ => rfl] at h
    rw [decide_eq_true c] at hq
    exact h _ _ _ _ ⟨.bl false, H, I, rfl, hq⟩
  · have h := SeqAt.RcNeAt.lists_lengths (A := X.A) (s := s) p1.isList p2.isList (by rw [s1, s2]; simpa using c) (by omega)
    rw [decide_eq_false c] at hq
    exact h _ _ _ _ ⟨.bl true, H, I, rfl, hq⟩
end
def fEqE (x y : D) : Option D := match x, y with
  | .lst xs, .lst ys => if xs.length = 0 ∨ ys.length = 0 then some (.bl (decide (xs.length = ys.length))) else none
  | _, _ => none
def fNeE (x y : D) : Option D := match x, y with
  | .lst xs, .lst ys => if xs.length = 0 ∨ ys.length = 0 then some (.bl (!decide (xs.length = ys.length))) else none
  | _, _ => none
section
variable {K : Frag}
theorem pk_eqE : PkOp K (rEqE K) fEqE := by
  intro W H vx vy x y d s kx ky e
  unfold fEqE at e
  split at e
  · split at e
    · rename_i c
      cases e
      obtain ⟨a, us, rfl, q1, r1⟩ := kx
      obtain ⟨b, ws, rfl, q2, r2⟩ := ky
      exact ⟨_, .bl _, fun Q k => ⟨a, b, us, ws, rfl, rfl, q1, q2, by rw [r1.len, r2.len]; exact c, by rw [r1.len, r2.len]; exact k⟩⟩
    · cases e
  · cases e
theorem pk_neE : PkOp K (rNeE K) fNeE := by
  intro W H vx vy x y d s kx ky e
  unfold fNeE at e
  split at e
  · split at e
    · rename_i c
      cases e
      obtain ⟨a, us, rfl, q1, r1⟩ := kx
      obtain ⟨b, ws, rfl, q2, r2⟩ := ky
      exact ⟨_, .bl _, fun Q k => ⟨a, b, us, ws, rfl, rfl, q1, q2, by rw [r1.len, r2.len]; exact c, by rw [r1.len, r2.len]; exact k⟩⟩
    · cases e
  · cases e
end
theorem eqE_nil (xs : List D) : fEqE (.lst xs) (.lst []) = some (.bl (decide (xs.length = 0))) := by
  unfold fEqE
  dsimp only
  rw [if_pos (.inr rfl)]
  rfl
theorem neE_nil (xs : List D) : fNeE (.lst xs) (.lst []) = some (.bl (!decide (xs.length = 0))) := by
  unfold fNeE
  dsimp only
  rw [if_pos (.inr rfl)]
  rfl
end Mi

set_option Elab.async false
set_option linter.all false
set_option autoImplicit false
set_option maxRecDepth 100000
set_option maxHeartbeats 4000000
/-! Mi33: isinstance inside a try -/
namespace Mi
open PySem PySem.Spec PyProof.Rows L2
theorem call_isiK (K : Frag) {X : Cx} (h : X.K = K := by rfl) : CallR X (.builtin "isinstance") (rIsi K) := by subst h; exact call_isi
end Mi

set_option Elab.async false
set_option linter.all false
set_option autoImplicit false
/-! Mi34: membership, with K of the outside -/
namespace Mi
open PySem PySem.Spec PyProof.Rows L2
theorem op_inK (K : Frag) {X : Cx} (h : X.K = K := by rfl) : OpR X (compareOp .In) (rIn K false) := by subst h; exact op_in_seq
theorem op_notInK (K : Frag) {X : Cx} (h : X.K = K := by rfl) : OpR X (compareOp .NotIn) (rIn K true) := by subst h; exact op_notIn_seq
end Mi

set_option Elab.async false
set_option linter.all false
set_option autoImplicit false
/-! Mi35: readings: while with its fuel, enumerate over a list with a place, a comprehension over a zip, a comprehension of a dict -/
namespace Mi
open PySem PySem.Spec PyProof.Rows L2
section
variable {mc : M Bool} {m1 mb : M Fl} {mas : M (List EV)} {kf : Fl → St → Prop} {e : Kv.Er → St → Prop} {vs : List Nat} {st : St} {mg : EV → M Unit} {mt : M Bool} {mk me ma : M EV}
theorem rp_wh (I : Nat → St → Prop) (hs : ∀ m st, I m st → Rp (mc st) (fun b st1 => if b = true then ∃ m', m = m' + 1 ∧ Rp (mb st1) (LpEnd (I m') kf) e else kf .nx st1) e) : ∀ (n m : Nat) (st : St), m < n → I m st → Rp (whL mc mb n st) kf e
  | 0, _, _, h, _ => absurd h (Nat.not_lt_zero _)
  | n + 1, m, st, hm, h => by
    unfold whL
    rw [rp_bind]
    refine rp_imp (hs m st h) (fun b st1 g => ?_) (fun _ _ z => z)
    by_cases c : b = true
    · rw [if_pos c] at g ⊢
      obtain ⟨m', rfl, g⟩ := g
      rw [rp_bind]
      refine rp_imp g (fun f st2 g => ?_) (fun _ _ z => z)
      cases f with
      | nx => exact rp_wh I hs n m' st2 (by omega) g
      | cont => exact rp_wh I hs n m' st2 (by omega) g
      | brk => exact g
      | ret ev => exact g
    · rw [if_neg c] at g ⊢
      exact g
theorem rp_lc_zip (I : List D → List D → St → Prop) {a b : EV} {xs ys : List D} {st0 : St} {kx : BX → St → Prop} (h1 : mas st = .ok [a, b] st0) (na : isSl a = false) (nb : isSl b = false) (pa : peek st0 a = some (.lst xs)) (pb : peek st0 b = some (.lst ys)) (h0 : I (zipD xs ys) [] st0) (hc : ∀ r acc st', I r acc st' → peek (st'.wiped vs) a = some (.lst xs) ∧ peek (st'.wiped vs) b = some (.lst ys))
    (hs : ∀ d r acc st', I (d :: r) acc st' → Rp (mg (.dat d) (st'.wiped vs)) (fun _ st1 => Rp (mt st1) (fun b st2 => if b = true then Rp (me st2) (fun ev st3 => Rp (toD ev st3) (fun x st4 => acc.length < sizeLine ∧ I r (acc ++ [x]) st4) (fun _ _ => False)) (fun _ _ => False) else I r acc st2) (fun _ _ => False)) (fun _ _ => False))
    (hd : ∀ acc st', I [] acc st' → kx (.lst acc) { st' with env := restE st0.env st'.env vs }) : Rp (mLc vs (mIZip mas) mg mt me st) kx e := by
  refine rp_lcF (it := ⟨zipD xs ys, fun st2 => peek st2 a = some (.lst xs) ∧ peek st2 b = some (.lst ys)⟩) (st0 := st0) ?_ ?_
  · unfold mIZip
    rw [h1]
    show (if isSl a = true ∨ isSl b = true then R.stuck else match peek st0 a, peek st0 b with
      | some (.lst xs), some (.lst ys) => R.ok ⟨zipD xs ys, fun st2 => peek st2 a = some (.lst xs) ∧ peek st2 b = some (.lst ys)⟩ st0
      | _, _ => .stuck : R Itr) = _
    rw [if_neg (by rw [na, nb]; decide), pa, pb]
  · exact rp_lcFl I hc hs (fun acc st' g => hd acc st' g) _ [] st0 h0
open Classical in
theorem rp_dcL (I : List (Key × D) → List (Key × D) → St → Prop) {kl : List (Key × D) → St → Prop}
    (hs : ∀ q d r acc st', I ((q, d) :: r) acc st' → Rp (mg (.dat (dK q)) (st'.wiped vs)) (fun _ st1 => Rp (mk st1) (fun kv st2 => ∃ p, keyE kv = some p ∧ Rp (me st2) (fun ev st3 => ∃ x, ev = .dat x ∧ acc.length < sizeLine ∧ I r (dPut acc p x) st3) (fun _ _ => False)) (fun _ _ => False)) (fun _ _ => False))
    (hd : ∀ acc st', I [] acc st' → kl acc st') : ∀ (l acc : List (Key × D)) (st : St), I l acc st → Rp (dcL vs (fun _ => True) mg (M.pure true) mk me (l.map fun kv => dK kv.1) acc st) kl (fun _ _ => False)
  | [], acc, st, h => by
    show Rp (if True then R.ok acc st else .stuck) kl _
    rw [if_pos trivial]
    exact hd acc st h
  | (q, d) :: l, acc, st, h => by
    show Rp (if True then (mg (.dat (dK q)) (st.wiped vs)).bind fun _ st1 => (mk st1).bind fun kv st3 => (me st3).bind fun ev st4 => dcR (fun acc => dcL vs (fun _ => True) mg (M.pure true) mk me (l.map fun kv => dK kv.1) acc) acc (keyE kv) ev st4 else .stuck) kl _
    rw [if_pos trivial, rp_bind]
    refine rp_imp (hs q d l acc st h) (fun _ st1 g => ?_) (fun _ _ z => z)
    rw [rp_bind]
    refine rp_imp g (fun kv st2 g => ?_) (fun _ _ z => z)
    obtain ⟨p, ep, g⟩ := g
    rw [rp_bind]
    refine rp_imp g (fun ev st3 g => ?_) (fun _ _ z => z)
    obtain ⟨x, rfl, hl, g⟩ := g
    unfold dcR
    rw [ep]
    dsimp only
    rw [if_pos hl]
    exact rp_dcL I hs hd l _ st3 g
open Classical in
theorem rp_dc {j : Nat} {kvs : List (Key × D)} {st0 : St} {kx : BX → St → Prop} (I : List (Key × D) → List (Key × D) → St → Prop) (h1 : ma st = .ok (.dat (.ob j)) st0) (h2 : st0.S[j]? = some (.bx (.fz kvs))) (h0 : I kvs [] st0)
    (hs : ∀ q d r acc st', I ((q, d) :: r) acc st' → Rp (mg (.dat (dK q)) (st'.wiped vs)) (fun _ st1 => Rp (mk st1) (fun kv st2 => ∃ p, keyE kv = some p ∧ Rp (me st2) (fun ev st3 => ∃ x, ev = .dat x ∧ acc.length < sizeLine ∧ I r (dPut acc p x) st3) (fun _ _ => False)) (fun _ _ => False)) (fun _ _ => False))
    (hd : ∀ acc st', I [] acc st' → kx (.dct acc) { st' with env := restE st0.env st'.env vs }) : Rp (mDc vs (mIKeys ma) mg (M.pure true) mk me st) kx e := by
  have hL := rp_dcL (vs := vs) (mg := mg) (mk := mk) (me := me) I (kl := fun acc st' => kx (.dct acc) { st' with env := restE st0.env st'.env vs }) hs hd kvs [] st0 h0
  have hi : mIKeys ma st = .ok ⟨kvs.map fun kv => dK kv.1, fun _ => True⟩ st0 := by
    unfold mIKeys
    rw [h1]
    show (match st0.S[j]? with
      | some (.bx (.fz kvs)) => R.ok ⟨kvs.map fun kv => dK kv.1, fun _ => True⟩ st0
      | _ => .stuck : R Itr) = _
    rw [h2]
  unfold mDc
  rw [hi]
  dsimp only [R.bind]
  have e1 : ∀ inst, @dcL vs (fun _ => True) mg (M.pure true) mk me inst (kvs.map fun kv => dK kv.1) [] st0 = dcL vs (fun _ => True) mg (M.pure true) mk me (kvs.map fun kv => dK kv.1) [] st0 := fun inst => by congr
  rw [e1]
  revert hL
  generalize dcL vs (fun _ => True) mg (M.pure true) mk me (kvs.map fun kv => dK kv.1) [] st0 = r
  intro hL
  cases r with
  | ok ds st2 => exact hL
  | err _ _ => exact hL.elim
  | stuck => exact hL.elim
end
/-- the law's end, the parameter's name at will -/
theorem walkL (x : Str) {l : PySem.W.OpenLaw} {k : Nat} {q : Program} {loose : List Str} {XP : (Str → Option Value) → Heap → Prop} {YP : World → Heap → Prop} {d : DefRec} {K : Params → Frag}
    (hn : l.most = some 63) (hdf : d.params.defaults = []) (hr : Room k callerA) (hY : ∀ (w : World) (h : Heap), YP w h → (K w.params).In h)
    (F : ∀ (w : World) (mg : Str → Option Value) (fa : Addr) (h : Heap), (K w.params).In h → h.Ns mainGlobals mg → mg d.name = some (.ref fa) →
      ∃ fd : FuncData, (∀ (s : Shared) (u : Value), BindsTo s fd ⟨[u], []⟩ [(x, u)]) ∧ ∀ base : Heap, (K w.params).In base → base.Ns mainGlobals mg → FnOk l.prog w (K w.params) mg base CX0 k fa fd [x] (Kv.spLaw (K w.params))) :
    PySem.W.WalkO q loose XP YP l.row.toRowW d [] (fun f vs => PySem.call f vs) :=
  L2.walk_ofB (n := 63) (k := k) (x := x) (CX := fun _ => CX0) (sp := fun w => Kv.spLaw (K w.params)) hn (by decide) hdf hr hY F
    (fun _ _ a ns hl hb _ hS => ⟨a, ns, rfl, hS, hl, hb, fun _ => rfl⟩) fun _ _ _ _ _ z => z
end Mi

set_option Elab.async false
set_option linter.all false
set_option autoImplicit false
/-! Mi36: membership in a list of lists or tuples -/
namespace Mi
open PySem PySem.Spec PyProof.Rows L2
theorem op_inDK {X : Cx} {K : Frag} {k : Nat} (hr : Room k X.A) (hK : X.K = K := by rfl) : OpR X (compareOp .In) (rInD K) := by subst hK; exact op_inD (by have := hr.un; omega)
theorem op_notInDK {X : Cx} {K : Frag} {k : Nat} (hr : Room k X.A) (hK : X.K = K := by rfl) : OpR X (compareOp .NotIn) (rNotInD K) := by subst hK; exact op_notInD (by have := hr.un; omega)
def fInD (x y : D) : Option D := match x.pd, y.pd with
  | some a, some (.list bs) => if SeqAt.shaped a = true ∧ SeqAt.shaped (.list bs) = true then some (.bl (bs.any fun z => PyData.eqv z a)) else none
  | _, _ => none
def fNinD (x y : D) : Option D := match x.pd, y.pd with
  | some a, some (.list bs) => if SeqAt.shaped a = true ∧ SeqAt.shaped (.list bs) = true then some (.bl (!bs.any fun z => PyData.eqv z a)) else none
  | _, _ => none
section
variable {K : Frag}
theorem pk_inD : PkOp K (rInD K) fInD := by
  intro W H vx vy x y d s kx ky e
  unfold fInD at e
  split at e
  · rename_i a bs e1 e2
    split at e
    · rename_i c
      cases e
      exact ⟨_, .bl _, fun Q k => ⟨a, bs, dp_of (kx.rep s) e1, dp_of (ky.rep s) e2, c.1, c.2, k⟩⟩
    · cases e
  · cases e
theorem pk_ninD : PkOp K (rNotInD K) fNinD := by
  intro W H vx vy x y d s kx ky e
  unfold fNinD at e
  split at e
  · rename_i a bs e1 e2
    split at e
    · rename_i c
      cases e
      exact ⟨_, .bl _, fun Q k => ⟨a, bs, dp_of (kx.rep s) e1, dp_of (ky.rep s) e2, c.1, c.2, k⟩⟩
    · cases e
  · cases e
end
/-! a comprehension within a comprehension -/
def relS (sc scope : Scope) : Scope := { scope with names := scope.names.map fun (n, k) => if (k == NameKind.free && sc.kind == .function && sc.names.lookup n == some .cell) then (n, NameKind.cell) else (n, k) }
theorem blkOk_in {N : List Str} {X : Cx} {s : Shared} {H : Hp} {fp : List Addr} {cl : List (Str × Addr)} {C : Addr} {scope1 scope : Scope} {own : List (Str × Nat)} (sc0 : Scope) (e : X.env.scope = sc0) (h : blkC N (relS sc0 scope1) scope own = true) : BlkOk N (X.blk s H scope1 (compEnvC scope1 cl C X.env) fp).env.scope scope own := by
  subst e
  exact blkOk_by (sc := relS X.env.scope scope1) h
theorem pi_listK (K : Frag) {X : Cx} {tg l : Expr} {tl : TE} (hl : PE X l tl) (h : X.K = K := by rfl) : PI X tg l (iList K tl) := by subst h; exact pi_list hl
end Mi

set_option Elab.async false
set_option linter.all false
set_option maxRecDepth 100000
set_option maxHeartbeats 4000000
/-! Mi37: text.replace of two written texts (a token must be out: the def has parameters) -/
namespace Mi
open PySem PySem.Spec PyProof.Rows L2
theorem psst_nox {X : Cx} {sts : List Stmt} {t : TS} (h : PSsT X.nox sts t) : PSsT X sts t := by
  intro pins s σ H D h0 I hw
  have r := h pins s σ H D h0 (I.wish _) hw
  exact wpAny_mono r (fun _ _ q => q.unwish) (fun _ _ z => absurd z id)
theorem pst_asg {X : Cx} {tg e : Expr} {te : TE} {g : TG} {pos : Pos} (he : PET X e te) (hg : PG X tg g) (hs : swapsWithSole [tg] e pos.line X.env = pure false := by rfl) (hw : swappedStores [tg] e X.env = pure none := by rfl) (h1 : (assignEach [tg] X.env).map (·.2) = [assign tg X.env] := by rfl) : PST X (.Assign [tg] e pos) (tAsg te g) := by
  intro pins s σ H D h0 I h
  have r := he pins s σ H _ h0 I h
  refine wpAny_Assign_stores (wpAny_mono r (fun v s1 q => ?_) (fun _ _ z => z)) hs hw
  obtain ⟨x, H1, I1, r1, q1⟩ := q
  rw [h1]
  have r2 := hg.run pins s1 σ H1 x v _ I1 r1 q1
  exact wpAny_mono r2 (fun _ s2 q => q) (fun _ _ z => z)
section
variable {P : Program} {w : World} {K : PySem.W.Frag} {mg : Str → Option Value} {base : Heap}
theorem fun_okT {x qual : Str} {st : Stmt} {f : Addr} {fd : FuncData} {N ps : List Str} {k : Nat} {sp : Sp} (F : L2.Fun K x qual st f fd) (S : FnScope N ps (defScope st)) (hnc : ∀ y ∈ (defScope st).names, y.2 ≠ .cell) (hps : 1 ≤ ps.length) (len : ∀ vs H Q E, sp vs H Q E → vs.length = ps.length)
    (hbody : ∀ (cdv : Value) (A : Around) (outer : List Env) (s : Shared) (H : Hp) (vs : List V) (Q : VK) (E : XK), Room k (A.deeper (envOfC qual (defScope st) s.heap.objs.size f cdv)) → sp vs H Q E →
      ∃ t, PSsT (cxOf CX0 P w K mg base N qual (defScope st) f cdv A outer s H E).nox (defBody st) t ∧ t { nx := fun _ H' => Q .non H', rt := Q } (start N vs) H) : FnOk P w K mg base CX0 (k + 1) f fd ps sp := by
  obtain ⟨oc, od, kV, doc, pm, an, cdv, ct, osl, e, lk, hcd⟩ := F.ex
  subst e
  exact fn_ofT lk hcd S hnc hps len fun A outer s H vs Q E hr hsp => by
    obtain ⟨t, h, q⟩ := hbody cdv A outer s H vs Q E hr hsp
    exact ⟨t, psst_nox h, q⟩
theorem fin0T {H : Hp} {Y : Cx} {b : List Stmt} {ex : Kv.Er → Addr} {X : XK} {t : TS} {ms : M Fl} {N : List Str} {n : Nat} {vs : List V} {Q : VK} {c : Str → Addr} (hd : PSsT Y b t) (hs : ∀ xa, SimS K (c, xa, false) EF t ms) (q : spM K c ex n (noErrF (runF N.length ms)) vs H Q X) :
    ∃ t, PSsT Y b t ∧ t { nx := fun _ H' => Q .non H', rt := Q } (L2.start N vs) H := ⟨t, hd, body_ok0 hs q⟩
end
def fReplace2 : D → D → D → Option D
  | .str a, .str y, .str z => if a.length + (a.length + 1) * z.length ≤ 16777216 then some (.str (Txt.replace a y z)) else none
  | _, _, _ => none
section
variable {K : Frag} {cl : (Str → Addr) × Addr × Bool} {E : Kv.Er → L2.St → Hp → Prop} {ta : TE} {ma : M EV} {y z : Str}
theorem sE_replC (ha : SimE K cl E ta ma) : SimE K cl E (CwR.tReplC ta y z) (mM2 fReplace2 ma (mC (.str y)) (mC (.str z))) := by
  intro W σ H st I Q q
  refine ha W σ H st I _ (Res.imp (Res.bind q) fun a st1 W1 H1 hm1 I1 x1 q1 va ka => ?_)
  split at q1
  · rename_i x
    cases ka
    have q1 : Res K cl E W1 σ H1 (match (if x.length + (x.length + 1) * z.length ≤ 16777216 then some (D.str (Txt.replace x y z)) else none) with
      | some d => R.ok (EV.dat d) st1
      | none => R.stuck) (fun ev x W' H' => ∀ (v : V), EvOk K W' H' σ v ev → Q v H') := q1
    by_cases c : x.length + (x.length + 1) * z.length ≤ 16777216
    · rw [if_pos c] at q1
      exact ⟨x, rfl, c, q1.now I1 _ (scV_mk rfl)⟩
    · rw [if_neg c] at q1
      exact q1.elim
  · exact q1.elim
end
end Mi

set_option Elab.async false
set_option linter.all false
set_option autoImplicit false
set_option maxRecDepth 100000
set_option maxHeartbeats 4000000
namespace K26
open PySem PySem.Spec PyProof.Rows L2
local macro_rules | `(tactic| walk_at "mi") => `(tactic| simp only [Mi.runF, Mi.noErrF, Mi.AV.sv, Mi.mSeq, Mi.mDrop, Mi.mRet, Mi.mRetX, Mi.mRetN, Mi.mNext, Mi.mBrk, Mi.mCont, Mi.mIfS, Mi.mAsg, Mi.mAsgN, Mi.mgName, Mi.setD, Mi.mgTup, Mi.mgCons, Mi.mgNil, Mi.mgSub, Mi.mAug, Mi.mTru, Mi.truD, Mi.mChain, Mi.mB, Mi.mAnd, Mi.mOr, Mi.mNot, Mi.mAndV, Mi.mOrV, Mi.mNotV, Mi.mIf, Mi.mPk, Mi.peek, Mi.peeks, Mi.iOp, Mi.sOp, Mi.fEq, Mi.fNe, Mi.fIsN, Mi.fNotN, Mi.isNon, Mi.scV, Mi.fIxL, Mi.fIxT, Mi.fIxS, Mi.mUn, Mi.fNeg, Mi.mM1, Mi.mM0, Mi.mM2, Mi.fIsdigit, Mi.fZfill, Mi.fFind, Mi.fEndswith, Mi.fStartswith, Mi.fRemoveprefix, Mi.fRemovesuffix, Mi.fLjust2, Mi.fJoin, Mi.mPartition, Mi.mSplit, Mi.mNew2, Mi.fCatL, Mi.mNewC, Mi.fListOf, Mi.mPart, Mi.mSlL, Mi.mSlS, Mi.mMut, Mi.ownB, Mi.setH, Mi.mPut, Mi.putH, Mi.St.wiped, Mi.wipeE, Mi.restE, Mi.fAppend, Mi.mPkC, Mi.fLenQ, Mi.fLenS, Mi.fAbs, Mi.fMax2, Mi.fMin2, Mi.fInt1, Mi.fStrI, Mi.fOrd, Mi.fIntS, Mi.fSum, Mi.fAll, Mi.fIsi, Mi.tyD, Mi.mCatA, Mi.mPar, Mi.mC, Mi.mD, Mi.toD, Mi.mVar, Mi.mTup, Mi.mLst, Mi.mFrz, Mi.mCons, Mi.mConsN, Mi.dats, Mi.notTp, Mi.M.pure, Mi.M.stuck, Mi.R.bind, Mi.mCall, Mi.mCall0, Mi.mCallN, Mi.callR, Mi.splitA, Mi.boxOf, Mi.isH, Mi.tagsOf, Mi.hTagAt, Mi.mPut, Mi.putH, Mi.St.wiped, Mi.wipeE, Mi.restE, Mi.backV, Mi.frzR, Mi.newR, Mi.mTry, Mi.mTryO, Mi.mKinds, Mi.mIsE, Mi.mRaise, Mi.noExc, Mi.isSl, Mi.mIList, Mi.mITup, Mi.mIStr, Mi.mIRng1, Mi.mIRng2, Mi.mIEnum, Mi.mIZip, Mi.fMulS, Mi.fEqD, Mi.fNeD, Mi.D.pd, Mi.pdL, Mi.mFor, Kv.sc_ii, Kv.sc_ss, Kv.sc_bb, Kv.sc_nn, Kv.sc_ni, Kv.sc_in, Kv.sc_sn, Kv.sc_ns, Kv.sc_bn, Kv.sc_nb, Kv.sc_is, Kv.sc_si, Kv.cdiv_1, Kv.cdiv_2, Kv.cdiv_3, Kv.cdiv_4, Kv.cdiv_5, Kv.cdiv_6, Kv.cdiv_7, Kv.cdiv_8, Kv.cdiv_9, Kv.cdiv_10, Kv.cdiv_16, Kv.cdiv_20, Kv.cdiv_100, Kv.cdiv_1000, Kv.cdiv_10000,
  List.map_cons, List.map_nil, List.cons_append, List.nil_append, List.append_nil, List.length_cons, List.length_nil, List.replicate, List.replicate_succ, List.replicate_zero, List.getElem?_cons_zero, List.getElem?_cons_succ, List.getElem?_nil, List.set_cons_zero, List.set_cons_succ, List.set_nil, List.length_map, List.mapIdx_cons, List.mapIdx_nil, List.nodup_cons, List.not_mem_nil, List.mem_cons, List.nodup_nil, not_false_eq_true, Function.comp, Mi.Tag.sl.injEq, Mi.Tag.io.injEq, Mi.Tag.tm.injEq, Option.map_some, Option.map_none, Option.bind_some, Option.bind_none, Option.some.injEq, V.int.injEq, V.str.injEq, V.bl.injEq, Bool.not_eq_true', Bool.true_and, Bool.and_true, Bool.false_and, Bool.and_false, Bool.or_false, Bool.false_or, Bool.not_true, Bool.not_false, Bool.false_eq_true, if_true, if_false, ite_true, ite_false, and_true, true_and, and_self, or_false, false_or, or_self, and_false, false_and, reduceCtorEq, Nat.reduceSub, Nat.reduceAdd, Nat.reduceLeDiff, Nat.reduceLT, Nat.reduceEqDiff, Nat.reduceMul, Nat.zero_add, Nat.add_zero, Int.reduceLT, Int.reduceLE, Int.reduceAdd, Int.reduceMul, Int.reduceSub, Int.reducePow, Int.reduceToNat, Int.reduceNeg, Nat.reducePow, decide_eq_true_eq, decide_true, decide_false, decide_eq_false_iff_not, not_true_eq_false, ite_self])
local macro_rules | `(tactic| walk_at "rp") => `(tactic| simp only [Mi.rp_ok, Mi.rp_err, Mi.rp_stuck, Mi.rp_pure, Mi.rp_c, Mi.rp_pk, Mi.rp_pkC, Mi.rp_un, Mi.rp_m1, Mi.rp_m0, Mi.rp_m2, Mi.rp_partition, Mi.rp_cons, Mi.rp_consN, Mi.rp_d, Mi.rp_frz, Mi.rp_tup, Mi.rp_lst, Mi.rp_new2, Mi.rp_newC, Mi.rp_part, Mi.rp_slL, Mi.rp_slS, Mi.rp_mut, Mi.rp_b, Mi.rp_and, Mi.rp_or, Mi.rp_not, Mi.rp_tru, Mi.rp_andV, Mi.rp_orV, Mi.rp_notV, Mi.rp_ifE, Mi.rp_chain, Mi.rp_next, Mi.rp_drop, Mi.rp_ret, Mi.rp_retX, Mi.rp_retN, Mi.rp_ifS, Mi.rp_asg, Mi.rp_asgN, Mi.rp_raise, Mi.rp_call, Mi.rp_callN, Mi.rp_kinds, Mi.rp_isE, Mi.rp_mgSub, Mi.kit_tt, Mi.kit_ss, Mi.kit_ii, Mi.kit_ib, Mi.kit_ll, Mi.kit_bb, Mi.ixN_2_0, Mi.ixN_2_1, Mi.ixN_3_0, Mi.ixN_3_1, Mi.ixN_3_2, Mi.atI_c0, Mi.atI_c1, Mi.atI_c2, Mi.atI_c3, Mi.atI_c4, Mi.rp_new_r, Mi.rp_frz_l, Mi.rp_frz_r, Mi.rp_ite, Mi.rp_try, Mi.rp_tryO, Mi.rp_split, Mi.rp_bind, Mi.iOp_some, Mi.sOp_some, Mi.eq_ii, Mi.eq_ss, Mi.ne_ii, Mi.ne_ss, Mi.fIxL_some, Mi.fIxT_some, Mi.append_some, Mi.EndD, Mi.EndN, Mi.EndG, Mi.SqEnd, Mi.LpEnd, Mi.AV.sv, Mi.mgName, Mi.mgTup, Mi.mgLst, Mi.mgCons, Mi.mgNil, Mi.setD, Mi.peek_int, Mi.peek_str, Mi.peek_bl, Mi.peek_non, Mi.peek_lst, Mi.peek_tup, Mi.peek_ty, Mi.peek_tp, Mi.peek_ioU, Mi.peek_slU, Mi.peeks, Mi.cpow_6, Mi.cpow_9, Mi.cpow_12, Mi.cpow_13, Mi.cpow_18, Mi.cdiv_p12, Mi.cdiv_p13, Mi.cdiv_p18,  Mi.toD, Mi.mVar, Mi.dats, Mi.notTp, Mi.isSl, Mi.ownB, Mi.setH, Mi.mPut, Mi.putH, Mi.St.wiped, Mi.wipeE, Mi.restE, Mi.fNeg, Mi.fInt1, Mi.fAbs, Mi.strI_some, Mi.lenS_some, Mi.mulS_some, Mi.ljust2_some, Mi.rmp_some, Mi.catL_some, Mi.fLenQ, Mi.fSum, Mi.fMax2, Mi.fMin2, Mi.fStartswith, Mi.fFind, Mi.fIsdigit, Mi.fIsN, Mi.fNotN, Mi.isNon, Mi.fIsi, Mi.tyD, Mi.truD, Mi.noExc, exists_eq_left', exists_eq_left, and_assoc, Option.some.injEq, Mi.D.int.injEq, Mi.D.str.injEq, Mi.D.bl.injEq, Mi.D.lst.injEq, Mi.D.tup.injEq, Mi.EV.dat.injEq, Mi.BX.lst.injEq, Mi.St.mk.injEq, List.cons.injEq, Mi.SV.dat.injEq, Mi.SV.own.injEq, Mi.Fl.ret.injEq, List.map_cons, List.map_nil, List.cons_append, List.nil_append, List.append_nil, List.length_cons, List.length_nil, List.replicate, List.replicate_succ, List.replicate_zero, List.getElem?_cons_zero, List.getElem?_cons_succ, List.getElem?_nil, List.set_cons_zero, List.set_cons_succ, List.set_nil, Option.map_some, Option.map_none, decide_eq_true_eq, decide_true, decide_false, Bool.not_eq_true', decide_eq_false_iff_not, Bool.false_eq_true, if_true, if_false, and_true, true_and, and_self, and_false, false_and, reduceCtorEq, Nat.reduceSub, Nat.reduceAdd, Nat.reduceLeDiff, Nat.reduceLT, Nat.reduceEqDiff, Int.reduceLT, Int.reduceLE, Int.reducePow, Int.reduceToNat, Int.reduceNeg, Int.reduceMul, Int.reduceAdd, Int.reduceSub, Kv.cdiv_1, Kv.cdiv_2, Kv.cdiv_3, Kv.cdiv_4, Kv.cdiv_5, Kv.cdiv_6, Kv.cdiv_7, Kv.cdiv_8, Kv.cdiv_9, Kv.cdiv_10, not_true_eq_false, not_false_eq_true, ite_self])
local macro_rules | `(tactic| walk_at "rs") => `(tactic| with_reducible refine Mi.rp_step fun U hU => ?_)
local macro_rules | `(tactic| walk_at "sq") => `(tactic| rw [Mi.rp_sq])
local macro_rules | `(tactic| walk_at "cl") => `(tactic| fail)
local macro_rules | `(tactic| walk_at "ne") => `(tactic| first | assumption | exact Ne.symm (by assumption) | decide | omega)
local macro_rules | `(tactic| walk_at "S") => `(tactic| first | assumption | with_reducible exact Mi.s_new | ((with_reducible refine Mi.s_eq ?_); walk_at "S") | ((with_reducible refine Mi.s_ne ?_ ?_); (focus walk_at "ne"); walk_at "S") | ((with_reducible refine Mi.s_app ?_); walk_at "S"))
local macro_rules | `(tactic| walk_at "oc") => `(tactic| first
  | ((with_reducible apply Mi.ob_fld); (focus walk_at "S"); (focus exact rfl))
  | ((with_reducible apply Mi.ob_rd); (focus walk_at "S"))
  | ((with_reducible apply Mi.ob_rz); (focus walk_at "S"))
  | ((with_reducible apply Mi.ob_ownD); (focus walk_at "S"))
  | ((with_reducible apply Mi.ob_ownL); (focus walk_at "S"))
  | ((with_reducible apply Mi.ob_peek); (focus walk_at "S"))
  | ((with_reducible apply Mi.ob_peekL); (focus walk_at "S"))
  | ((with_reducible apply Mi.ob_set); (focus walk_at "S"); (focus first | decide | exact Nat.le_of_ble_eq_true rfl)))
local macro_rules | `(tactic| walk_at "ob") => `(tactic| first
  | ((with_reducible refine Mi.is_ex ?_); walk_at "oc")
  | ((with_reducible refine Mi.is_and ?_); (with_reducible apply Mi.ob_meth); (focus walk_at "S"); (focus exact rfl)))
local macro_rules | `(tactic| walk_at "if") => `(tactic| (with_reducible refine Mi.rp_isIf ?_); (with_reducible refine Mi.rp_sqA ?_); walk_at "rp")
local macro_rules | `(tactic| walk_at "go") => `(tactic| repeat (first | (fail_if_success with_reducible refine Mi.rp_isIf ?_); with_reducible refine Mi.rp_sqA ?_ | ((fail_if_success with_reducible refine Mi.is_ite ?_); walk_at "rp") | with_reducible refine Mi.sq_nx ?_ | with_reducible refine Mi.lp_nx ?_ | with_reducible refine Mi.lp_ct ?_ | with_reducible refine Mi.lp_bk ?_ | with_reducible refine Mi.lp_rt ?_ | with_reducible refine Mi.sq_rt ?_ | with_reducible refine Mi.sq_bk ?_ | with_reducible refine Mi.sq_ct ?_ | walk_at "cl" | walk_at "ob" | ((with_reducible refine Mi.sz_and ?_ ?_); (focus (first | decide | omega))) | ((with_reducible refine Mi.sz0 ?_); (focus (first | decide | omega))) | ((with_reducible refine Mi.sz0t ?_); (focus (first | decide | omega))) | ((with_reducible refine Mi.sz_andt ?_ ?_); (focus (first | decide | omega))) | ((with_reducible refine Mi.is_ite ?_); simp only [↓reduceIte, Option.isSome_some, Option.isSome_none, Bool.not_true, Bool.not_false, Bool.false_eq_true, Bool.true_eq_false, decide_true, decide_false, reduceCtorEq, not_true_eq_false, not_false_eq_true])))
noncomputable def b_is_name : Mi.M Mi.Fl := (Mi.mSeq (Mi.mIfS (Mi.mNot (Mi.mB (Mi.mChain Mi.fLe Mi.fLe (Mi.mC (.int 1)) (Mi.mPkC Mi.fLenS (Mi.mCons (Mi.mVar 0) (Mi.M.pure []))) (Mi.mC (.int 12))))) (Mi.mRet (Mi.mC (.bl false))) Mi.mNext) 
    (Mi.mRet (Mi.mAndV (Mi.mPk Mi.fInS (Mi.mPk Mi.fIxS (Mi.mVar 0) (Mi.mC (.int 0))) (Mi.mC (.str "abcdefghijklmnopqrstuvwxyz"))) (Mi.mPkC Mi.fAll (Mi.mCons (Mi.mFrz (Mi.mLc [1] (Mi.mIStr (Mi.mVar 0)) (Mi.mgName 1) (Mi.M.pure true) (Mi.mOrV (Mi.mPk Mi.fInS (Mi.mVar 1) (Mi.mC (.str "abcdefghijklmnopqrstuvwxyz"))) (Mi.mPk Mi.fInS (Mi.mVar 1) (Mi.mC (.str "0123456789")))))) (Mi.M.pure []))))))
noncomputable def m_is_name : Mi.Fn := Mi.noErrF (Mi.runF 2 b_is_name)
noncomputable def b_check_fields : Mi.M Mi.Fl := (Mi.mSeq (Mi.mIfS (Mi.mB (Mi.mPk Mi.fGt (Mi.mPkC Mi.fLenQ (Mi.mCons (Mi.mVar 0) (Mi.M.pure []))) (Mi.mC (.int 8)))) (Mi.mRaise .badValue) Mi.mNext) 
    (Mi.mFor (Mi.mIList (Mi.mVar 0)) (Mi.mgName 1) (Mi.mIfS (Mi.mOr (Mi.mB (Mi.mPk Mi.fGt (Mi.mPkC Mi.fLenS (Mi.mCons (Mi.mVar 1) (Mi.M.pure []))) (Mi.mC (.int 40)))) (Mi.mB (Mi.mPk Mi.fInS (Mi.mC (.str "|")) (Mi.mVar 1)))) (Mi.mRaise .badValue) Mi.mNext)))
noncomputable def m_check_fields : Mi.Fn := Mi.runF 2 b_check_fields
noncomputable def b_check_digits_of : Mi.M Mi.Fl := (Mi.mSeq (Mi.mAsg (Mi.mPkC Mi.fSum (Mi.mCons (Mi.mFrz (Mi.mLc [2, 3] (Mi.mIEnumS (Mi.mCons (Mi.mVar 0) (Mi.mCons (Mi.mC (.int 1)) (Mi.M.pure [])))) (Mi.mgTup 2 (Mi.mgCons (Mi.mgName 2) (Mi.mgCons (Mi.mgName 3) Mi.mgNil))) (Mi.M.pure true) (Mi.mPk Mi.fMul (Mi.mVar 2) (Mi.mPkC Mi.fOrd (Mi.mCons (Mi.mVar 3) (Mi.M.pure [])))))) (Mi.M.pure []))) (Mi.mgName 1)) 
    (Mi.mRet (Mi.mM1 Mi.fZfill (Mi.mPkC Mi.fStrI (Mi.mCons (Mi.mPk Mi.fMod (Mi.mVar 1) (Mi.mC (.int 9973))) (Mi.M.pure []))) (Mi.mC (.int 4)))))
noncomputable def m_check_digits_of : Mi.Fn := Mi.noErrF (Mi.runF 4 b_check_digits_of)
noncomputable def b_L_cell : Mi.M Mi.Fl := (Mi.mSeq (Mi.mIfS (Mi.mB (Mi.mPk Mi.fLt (Mi.mVar 1) (Mi.mPkC Mi.fLenQ (Mi.mCons (Mi.mVar 0) (Mi.M.pure []))))) (Mi.mRet (Mi.mPk Mi.fIxL (Mi.mVar 0) (Mi.mVar 1))) Mi.mNext) 
    (Mi.mRet (Mi.mC (.int 0))))
noncomputable def m_L_cell : Mi.Fn := Mi.noErrF (Mi.runF 2 b_L_cell)
noncomputable def b_L_source : Mi.M Mi.Fl := (Mi.mSeq (Mi.mIfS (Mi.mB (Mi.mPk Mi.fGe (Mi.mVar 0) (Mi.mPk Mi.fPow (Mi.mC (.int 10)) (Mi.mC (.int 18))))) (Mi.mRetX (Mi.mLst (Mi.mCons (Mi.mD (Mi.mPk Mi.fSub (Mi.mVar 0) (Mi.mPk Mi.fPow (Mi.mC (.int 10)) (Mi.mC (.int 18))))) (Mi.mCons (Mi.mD (Mi.mPk Mi.fAdd (Mi.mVar 1) (Mi.mC (.int 1)))) (Mi.M.pure []))))) Mi.mNext) 
    (Mi.mRetX (Mi.mLst (Mi.mCons (Mi.mC (.int 0)) (Mi.mCons (Mi.mD (Mi.mPk Mi.fMod (Mi.mPkC Mi.fInt1 (Mi.mCons (Mi.mPk Mi.fAdd (Mi.mPk Mi.fAdd (Mi.mPk Mi.fMul (Mi.mVar 0) (Mi.mC (.int 7919))) (Mi.mPk Mi.fMul (Mi.mVar 1) (Mi.mC (.int 104729)))) (Mi.mC (.int 1))) (Mi.M.pure []))) (Mi.mC (.int 2147483647)))) (Mi.M.pure []))))))
noncomputable def m_L_source : Mi.Fn := Mi.noErrF (Mi.runF 2 b_L_source)
noncomputable def b_L_pick : Mi.M Mi.Fl := (Mi.mSeq (Mi.mIfS (Mi.mB (Mi.mPk Mi.fGt (Mi.mPk Mi.fIxL (Mi.mVar 0) (Mi.mC (.int 0))) (Mi.mC (.int 1)))) (Mi.mSeq (Mi.mAsg (Mi.mPk Mi.fMod (Mi.mPkC Mi.fInt1 (Mi.mCons (Mi.mPk Mi.fIxL (Mi.mVar 0) (Mi.mC (.int 0))) (Mi.M.pure []))) (Mi.mVar 1)) (Mi.mgName 2)) 
      (Mi.mSeq (Mi.mAsg (Mi.mD (Mi.mPk Mi.fDiv (Mi.mPk Mi.fIxL (Mi.mVar 0) (Mi.mC (.int 0))) (Mi.mVar 1))) (Mi.mgSub (Mi.mVar 0) (Mi.mC (.int 0)))) 
      (Mi.mRet (Mi.mVar 2)))) Mi.mNext) 
    (Mi.mSeq (Mi.mAsg (Mi.mD (Mi.mPk Mi.fMod (Mi.mPkC Mi.fInt1 (Mi.mCons (Mi.mPk Mi.fAdd (Mi.mPk Mi.fMul (Mi.mPk Mi.fIxL (Mi.mVar 0) (Mi.mC (.int 1))) (Mi.mC (.int 48271))) (Mi.mC (.int 12345))) (Mi.M.pure []))) (Mi.mC (.int 2147483647)))) (Mi.mgSub (Mi.mVar 0) (Mi.mC (.int 1)))) 
    (Mi.mSeq (Mi.mAsg (Mi.mPk Mi.fMod (Mi.mPkC Mi.fInt1 (Mi.mCons (Mi.mPk Mi.fAdd (Mi.mPk Mi.fAdd (Mi.mPk Mi.fMul (Mi.mPk Mi.fIxL (Mi.mVar 0) (Mi.mC (.int 1))) (Mi.mC (.int 69621))) (Mi.mPk Mi.fDiv (Mi.mPk Mi.fIxL (Mi.mVar 0) (Mi.mC (.int 1))) (Mi.mC (.int 127)))) (Mi.mC (.int 7))) (Mi.M.pure []))) (Mi.mC (.int 2147483629))) (Mi.mgName 3)) 
    (Mi.mRet (Mi.mPk Mi.fMod (Mi.mPkC Mi.fInt1 (Mi.mCons (Mi.mPk Mi.fDiv (Mi.mVar 3) (Mi.mC (.int 16))) (Mi.M.pure []))) (Mi.mVar 1))))))
noncomputable def m_L_pick : Mi.Fn := Mi.noErrF (Mi.runF 4 b_L_pick)
noncomputable def b_L_check : Mi.M Mi.Fl := (Mi.mSeq (Mi.mAsg (Mi.mC (.int 0)) (Mi.mgName 1)) 
    (Mi.mSeq (Mi.mFor (Mi.mIRng1 (Mi.mCons (Mi.mPkC Mi.fLenS (Mi.mCons (Mi.mVar 0) (Mi.M.pure []))) (Mi.M.pure []))) (Mi.mgName 2) (Mi.mAsg (Mi.mPk Mi.fAdd (Mi.mVar 1) (Mi.mPk Mi.fMul (Mi.mPk Mi.fAdd (Mi.mVar 2) (Mi.mC (.int 1))) (Mi.mPkC Mi.fOrd (Mi.mCons (Mi.mPk Mi.fIxS (Mi.mVar 0) (Mi.mVar 2)) (Mi.M.pure []))))) (Mi.mgName 1))) 
    (Mi.mSeq (Mi.mAsg (Mi.mPkC Mi.fStrI (Mi.mCons (Mi.mPk Mi.fMod (Mi.mPkC Mi.fInt1 (Mi.mCons (Mi.mVar 1) (Mi.M.pure []))) (Mi.mC (.int 9973))) (Mi.M.pure []))) (Mi.mgName 3)) 
    (Mi.mRet (Mi.mPk Mi.fCat (Mi.mPk Mi.fMulS (Mi.mC (.str "0")) (Mi.mPk Mi.fSub (Mi.mC (.int 4)) (Mi.mPkC Mi.fLenS (Mi.mCons (Mi.mVar 3) (Mi.M.pure []))))) (Mi.mVar 3))))))
noncomputable def m_L_check : Mi.Fn := Mi.noErrF (Mi.runF 4 b_L_check)
noncomputable def b_L_is_letter : Mi.M Mi.Fl := (Mi.mSeq (Mi.mIfS (Mi.mOr (Mi.mNot (Mi.mB (Mi.mPkC Mi.fIsi (Mi.mCons (Mi.mVar 0) (Mi.mCons (Mi.mC (.ty "tuple")) (Mi.M.pure [])))))) (Mi.mB (Mi.mPk Mi.fNe (Mi.mPkC Mi.fLenQ (Mi.mCons (Mi.mVar 0) (Mi.M.pure []))) (Mi.mC (.int 5))))) (Mi.mRet (Mi.mC (.bl false))) Mi.mNext) 
    (Mi.mSeq (Mi.mFor (Mi.mIRng1 (Mi.mCons (Mi.mC (.int 3)) (Mi.M.pure []))) (Mi.mgName 2) (Mi.mIfS (Mi.mOr (Mi.mNot (Mi.mB (Mi.mPkC Mi.fIsi (Mi.mCons (Mi.mPk Mi.fIxT (Mi.mVar 0) (Mi.mVar 2)) (Mi.mCons (Mi.mC (.ty "str")) (Mi.M.pure [])))))) (Mi.mB (Mi.mPk Mi.fNe (Mi.mPk Mi.fIxT (Mi.mVar 0) (Mi.mVar 2)) (Mi.mPk Mi.fIxT (Mi.mVar 1) (Mi.mVar 2))))) (Mi.mRet (Mi.mC (.bl false))) Mi.mNext)) 
    (Mi.mSeq (Mi.mIfS (Mi.mOr (Mi.mNot (Mi.mB (Mi.mPkC Mi.fIsi (Mi.mCons (Mi.mPk Mi.fIxT (Mi.mVar 0) (Mi.mC (.int 3))) (Mi.mCons (Mi.mC (.ty "int")) (Mi.M.pure [])))))) (Mi.mOr (Mi.mB (Mi.mPkC Mi.fIsi (Mi.mCons (Mi.mPk Mi.fIxT (Mi.mVar 0) (Mi.mC (.int 3))) (Mi.mCons (Mi.mC (.ty "bool")) (Mi.M.pure []))))) (Mi.mB (Mi.mPk Mi.fNe (Mi.mPk Mi.fIxT (Mi.mVar 0) (Mi.mC (.int 3))) (Mi.mPk Mi.fIxT (Mi.mVar 1) (Mi.mC (.int 3))))))) (Mi.mRet (Mi.mC (.bl false))) Mi.mNext) 
    (Mi.mRet (Mi.mAndV (Mi.mPkC Mi.fIsi (Mi.mCons (Mi.mPk Mi.fIxT (Mi.mVar 0) (Mi.mC (.int 4))) (Mi.mCons (Mi.mC (.ty "list")) (Mi.M.pure [])))) (Mi.mPk Mi.fEqD (Mi.mPk Mi.fIxT (Mi.mVar 0) (Mi.mC (.int 4))) (Mi.mPk Mi.fIxT (Mi.mVar 1) (Mi.mC (.int 4)))))))))
noncomputable def m_L_is_letter : Mi.Fn := Mi.noErrF (Mi.runF 3 b_L_is_letter)
noncomputable def b_check_name : Mi.M Mi.Fl := (Mi.mIfS (Mi.mNot (Mi.mB (Mi.mCall 1 m_is_name (Mi.mCons (Mi.mD (Mi.mVar 0)) (Mi.M.pure []))))) (Mi.mRaise .badValue) Mi.mNext)
noncomputable def m_check_name : Mi.Fn := Mi.runF 1 b_check_name
noncomputable def b_L_name : Mi.M Mi.Fl := (Mi.mSeq (Mi.mAsg (Mi.mC (.str "abcdefghijklmnopqrstuvwxyz0123456789")) (Mi.mgName 1)) 
    (Mi.mSeq (Mi.mAsg (Mi.mPk Mi.fIxS (Mi.mVar 1) (Mi.mCall 2 m_L_pick (Mi.mCons (Mi.mVar 0) (Mi.mCons (Mi.mC (.int 26)) (Mi.M.pure []))))) (Mi.mgName 2)) 
    (Mi.mSeq (Mi.mFor (Mi.mIRng1 (Mi.mCons (Mi.mCall 2 m_L_pick (Mi.mCons (Mi.mVar 0) (Mi.mCons (Mi.mC (.int 12)) (Mi.M.pure [])))) (Mi.M.pure []))) (Mi.mgName 3) (Mi.mAsg (Mi.mPk Mi.fCat (Mi.mVar 2) (Mi.mPk Mi.fIxS (Mi.mVar 1) (Mi.mCall 2 m_L_pick (Mi.mCons (Mi.mVar 0) (Mi.mCons (Mi.mC (.int 36)) (Mi.M.pure [])))))) (Mi.mgName 2))) 
    (Mi.mRet (Mi.mVar 2)))))
noncomputable def m_L_name : Mi.Fn := Mi.noErrF (Mi.runF 4 b_L_name)
noncomputable def b_L_text : Mi.M Mi.Fl := (Mi.mSeq (Mi.mAsg (Mi.mC (.str " !\"#$&'()*+,-./0123456789:;<=>?@ABCDEFGHIJKLMNOPQRSTUVWXYZ[\\]^_`")) (Mi.mgName 2)) 
    (Mi.mSeq (Mi.mAsg (Mi.mPk Mi.fCat (Mi.mVar 2) (Mi.mC (.str "abcdefghijklmnopqrstuvwxyz{}~"))) (Mi.mgName 2)) 
    (Mi.mSeq (Mi.mAsg (Mi.mCall 2 m_L_pick (Mi.mCons (Mi.mVar 0) (Mi.mCons (Mi.mC (.int 5)) (Mi.M.pure [])))) (Mi.mgName 3)) 
    (Mi.mSeq (Mi.mIfS (Mi.mB (Mi.mPk Mi.fEq (Mi.mVar 3) (Mi.mC (.int 4)))) (Mi.mAsg (Mi.mCall 2 m_L_pick (Mi.mCons (Mi.mVar 0) (Mi.mCons (Mi.mD (Mi.mPk Mi.fAdd (Mi.mVar 1) (Mi.mC (.int 1)))) (Mi.M.pure [])))) (Mi.mgName 3)) Mi.mNext) 
    (Mi.mRet (Mi.mM1 Mi.fJoin (Mi.mC (.str "")) (Mi.mFrz (Mi.mLc [4] (Mi.mIRng1 (Mi.mCons (Mi.mVar 3) (Mi.M.pure []))) (Mi.mgName 4) (Mi.M.pure true) (Mi.mPk Mi.fIxS (Mi.mVar 2) (Mi.mCall 2 m_L_pick (Mi.mCons (Mi.mVar 0) (Mi.mCons (Mi.mD (Mi.mPkC Mi.fLenS (Mi.mCons (Mi.mVar 2) (Mi.M.pure [])))) (Mi.M.pure [])))))))))))))
noncomputable def m_L_text : Mi.Fn := Mi.noErrF (Mi.runF 5 b_L_text)
noncomputable def b_L_written : Mi.M Mi.Fl := (Mi.mSeq (Mi.mAsg (Mi.mPk Mi.fCat (Mi.mM1 Mi.fJoin (Mi.mC (.str "|")) (Mi.mFrz (Mi.mNew2 Mi.fCatL (Mi.mFrz (Mi.mLst (Mi.mCons (Mi.mD (Mi.mVar 0)) (Mi.mCons (Mi.mD (Mi.mVar 1)) (Mi.mCons (Mi.mD (Mi.mVar 2)) (Mi.mCons (Mi.mD (Mi.mVar 3)) (Mi.M.pure []))))))) (Mi.mVar 4)))) (Mi.mC (.str "|"))) (Mi.mgName 5)) 
    (Mi.mRet (Mi.mPk Mi.fCat (Mi.mVar 5) (Mi.mCall 1 m_L_check (Mi.mCons (Mi.mD (Mi.mVar 5)) (Mi.M.pure []))))))
noncomputable def m_L_written : Mi.Fn := Mi.noErrF (Mi.runF 6 b_L_written)
noncomputable def b_L_odd_digits : Mi.M Mi.Fl := (Mi.mSeq (Mi.mAsg (Mi.mCall 2 m_L_pick (Mi.mCons (Mi.mVar 0) (Mi.mCons (Mi.mC (.int 4)) (Mi.M.pure [])))) (Mi.mgName 2)) 
    (Mi.mSeq (Mi.mIfS (Mi.mB (Mi.mPk Mi.fEq (Mi.mVar 2) (Mi.mC (.int 0)))) (Mi.mRet (Mi.mPk Mi.fCat (Mi.mPk Mi.fMulS (Mi.mC (.str "0")) (Mi.mPk Mi.fAdd (Mi.mC (.int 1)) (Mi.mCall 2 m_L_pick (Mi.mCons (Mi.mVar 0) (Mi.mCons (Mi.mC (.int 4)) (Mi.M.pure [])))))) (Mi.mPkC Mi.fStrI (Mi.mCons (Mi.mVar 1) (Mi.M.pure []))))) Mi.mNext) 
    (Mi.mSeq (Mi.mIfS (Mi.mB (Mi.mPk Mi.fEq (Mi.mVar 2) (Mi.mC (.int 1)))) (Mi.mRet (Mi.mPkC Mi.fStrI (Mi.mCons (Mi.mPk Mi.fAdd (Mi.mC (.int 1000000)) (Mi.mCall 2 m_L_pick (Mi.mCons (Mi.mVar 0) (Mi.mCons (Mi.mD (Mi.mPk Mi.fPow (Mi.mC (.int 10)) (Mi.mC (.int 15)))) (Mi.M.pure []))))) (Mi.M.pure [])))) Mi.mNext) 
    (Mi.mSeq (Mi.mIfS (Mi.mB (Mi.mPk Mi.fEq (Mi.mVar 2) (Mi.mC (.int 2)))) (Mi.mRet (Mi.mPk Mi.fIxL (Mi.mFrz (Mi.mLst (Mi.mCons (Mi.mC (.str "")) (Mi.mCons (Mi.mC (.str "-1")) (Mi.mCons (Mi.mC (.str "+1")) (Mi.mCons (Mi.mC (.str " 1")) (Mi.mCons (Mi.mC (.str "1 ")) (Mi.mCons (Mi.mC (.str "1.0")) (Mi.mCons (Mi.mC (.str "x")) (Mi.mCons (Mi.mC (.str "-0")) (Mi.mCons (Mi.mC (.str "1_0")) (Mi.M.pure [])))))))))))) (Mi.mCall 2 m_L_pick (Mi.mCons (Mi.mVar 0) (Mi.mCons (Mi.mC (.int 9)) (Mi.M.pure [])))))) Mi.mNext) 
    (Mi.mRet (Mi.mPkC Mi.fStrI (Mi.mCons (Mi.mPk Mi.fSub (Mi.mPk Mi.fSub (Mi.mC (.int 0)) (Mi.mC (.int 1))) (Mi.mVar 1)) (Mi.M.pure []))))))))
noncomputable def m_L_odd_digits : Mi.Fn := Mi.noErrF (Mi.runF 3 b_L_odd_digits)
noncomputable def b_check_letter : Mi.M Mi.Fl := (Mi.mSeq (Mi.mAsg (Mi.mVar 0) (Mi.mgTup 5 (Mi.mgCons (Mi.mgName 1) (Mi.mgCons (Mi.mgName 2) (Mi.mgCons (Mi.mgName 3) (Mi.mgCons (Mi.mgName 4) (Mi.mgCons (Mi.mgName 5) Mi.mgNil))))))) 
    (Mi.mSeq (Mi.mDrop (Mi.mCall 1 m_check_name (Mi.mCons (Mi.mD (Mi.mVar 1)) (Mi.M.pure [])))) 
    (Mi.mSeq (Mi.mDrop (Mi.mCall 1 m_check_name (Mi.mCons (Mi.mD (Mi.mVar 2)) (Mi.M.pure [])))) 
    (Mi.mSeq (Mi.mDrop (Mi.mCall 1 m_check_name (Mi.mCons (Mi.mD (Mi.mVar 3)) (Mi.M.pure [])))) 
    (Mi.mSeq (Mi.mIfS (Mi.mNot (Mi.mB (Mi.mChain Mi.fLe Mi.fLe (Mi.mC (.int 0)) (Mi.mVar 4) (Mi.mC (.int 999999))))) (Mi.mRaise .badValue) Mi.mNext) 
    (Mi.mDrop (Mi.mCall 1 m_check_fields (Mi.mCons (Mi.mVar 5) (Mi.M.pure [])))))))))
noncomputable def m_check_letter : Mi.Fn := Mi.runF 6 b_check_letter
noncomputable def b_L_letter : Mi.M Mi.Fl := (Mi.mSeq (Mi.mAsg (Mi.mPk Mi.fIxL (Mi.mFrz (Mi.mLst (Mi.mCons (Mi.mC (.int 0)) (Mi.mCons (Mi.mC (.int 999999)) (Mi.mCons (Mi.mD (Mi.mCall 2 m_L_pick (Mi.mCons (Mi.mVar 0) (Mi.mCons (Mi.mC (.int 12)) (Mi.M.pure []))))) (Mi.mCons (Mi.mD (Mi.mCall 2 m_L_pick (Mi.mCons (Mi.mVar 0) (Mi.mCons (Mi.mC (.int 1000000)) (Mi.M.pure []))))) (Mi.M.pure []))))))) (Mi.mCall 2 m_L_pick (Mi.mCons (Mi.mVar 0) (Mi.mCons (Mi.mC (.int 4)) (Mi.M.pure []))))) (Mi.mgName 2)) 
    (Mi.mSeq (Mi.mAsg (Mi.mPk Mi.fIxL (Mi.mFrz (Mi.mLst (Mi.mCons (Mi.mD (Mi.mCall 2 m_L_pick (Mi.mCons (Mi.mVar 0) (Mi.mCons (Mi.mC (.int 9)) (Mi.M.pure []))))) (Mi.mCons (Mi.mD (Mi.mCall 2 m_L_pick (Mi.mCons (Mi.mVar 0) (Mi.mCons (Mi.mC (.int 9)) (Mi.M.pure []))))) (Mi.mCons (Mi.mC (.int 8)) (Mi.mCons (Mi.mC (.int 0)) (Mi.M.pure []))))))) (Mi.mCall 2 m_L_pick (Mi.mCons (Mi.mVar 0) (Mi.mCons (Mi.mC (.int 4)) (Mi.M.pure []))))) (Mi.mgName 3)) 
    (Mi.mSeq (Mi.mAsg (Mi.mFrz (Mi.mLc [5] (Mi.mIRng1 (Mi.mCons (Mi.mVar 3) (Mi.M.pure []))) (Mi.mgName 5) (Mi.M.pure true) (Mi.mCall 2 m_L_text (Mi.mCons (Mi.mVar 1) (Mi.mCons (Mi.mC (.int 40)) (Mi.M.pure [])))))) (Mi.mgName 4)) 
    (Mi.mRet (Mi.mTup (Mi.mCons (Mi.mD (Mi.mCall 1 m_L_name (Mi.mCons (Mi.mVar 0) (Mi.M.pure [])))) (Mi.mCons (Mi.mD (Mi.mCall 1 m_L_name (Mi.mCons (Mi.mVar 0) (Mi.M.pure [])))) (Mi.mCons (Mi.mD (Mi.mCall 1 m_L_name (Mi.mCons (Mi.mVar 0) (Mi.M.pure [])))) (Mi.mCons (Mi.mD (Mi.mVar 2)) (Mi.mCons (Mi.mD (Mi.mVar 4)) (Mi.M.pure [])))))))))))
noncomputable def m_L_letter : Mi.Fn := Mi.noErrF (Mi.runF 6 b_L_letter)
noncomputable def b_L_bad_name : Mi.M Mi.Fl := (Mi.mSeq (Mi.mAsg (Mi.mCall 1 m_L_name (Mi.mCons (Mi.mVar 0) (Mi.M.pure []))) (Mi.mgName 1)) 
    (Mi.mSeq (Mi.mAsg (Mi.mCall 2 m_L_pick (Mi.mCons (Mi.mVar 0) (Mi.mCons (Mi.mC (.int 6)) (Mi.M.pure [])))) (Mi.mgName 2)) 
    (Mi.mSeq (Mi.mIfS (Mi.mB (Mi.mPk Mi.fEq (Mi.mVar 2) (Mi.mC (.int 0)))) (Mi.mRet (Mi.mC (.str ""))) Mi.mNext) 
    (Mi.mSeq (Mi.mIfS (Mi.mB (Mi.mPk Mi.fEq (Mi.mVar 2) (Mi.mC (.int 1)))) (Mi.mRet (Mi.mPk Mi.fCat (Mi.mVar 1) (Mi.mC (.str "abcdefghijkl")))) Mi.mNext) 
    (Mi.mSeq (Mi.mIfS (Mi.mB (Mi.mPk Mi.fEq (Mi.mVar 2) (Mi.mC (.int 2)))) (Mi.mRet (Mi.mPk Mi.fCat (Mi.mPk Mi.fIxS (Mi.mC (.str "0123456789")) (Mi.mCall 2 m_L_pick (Mi.mCons (Mi.mVar 0) (Mi.mCons (Mi.mC (.int 10)) (Mi.M.pure []))))) (Mi.mSlS (Mi.mVar 1) (Mi.mPart (Mi.mC (.int 1))) (Mi.M.pure none)))) Mi.mNext) 
    (Mi.mSeq (Mi.mAsg (Mi.mC (.str " !\"#$&'()*+,-./:;<=>?@ABCDEFGHIJKLMNOPQRSTUVWXYZ[\\]^_`{|}~")) (Mi.mgName 3)) 
    (Mi.mSeq (Mi.mAsg (Mi.mCall 2 m_L_pick (Mi.mCons (Mi.mVar 0) (Mi.mCons (Mi.mD (Mi.mPkC Mi.fLenS (Mi.mCons (Mi.mVar 1) (Mi.M.pure [])))) (Mi.M.pure [])))) (Mi.mgName 4)) 
    (Mi.mRet (Mi.mPk Mi.fCat (Mi.mPk Mi.fCat (Mi.mSlS (Mi.mVar 1) (Mi.M.pure none) (Mi.mPart (Mi.mVar 4))) (Mi.mPk Mi.fIxS (Mi.mVar 3) (Mi.mCall 2 m_L_pick (Mi.mCons (Mi.mVar 0) (Mi.mCons (Mi.mD (Mi.mPkC Mi.fLenS (Mi.mCons (Mi.mVar 3) (Mi.M.pure [])))) (Mi.M.pure [])))))) (Mi.mSlS (Mi.mVar 1) (Mi.mPart (Mi.mPk Mi.fAdd (Mi.mVar 4) (Mi.mC (.int 1)))) (Mi.M.pure none)))))))))))
noncomputable def m_L_bad_name : Mi.Fn := Mi.noErrF (Mi.runF 5 b_L_bad_name)
noncomputable def b_write_letter : Mi.M Mi.Fl := (Mi.mSeq (Mi.mDrop (Mi.mCall 1 m_check_letter (Mi.mCons (Mi.mVar 0) (Mi.M.pure [])))) 
    (Mi.mSeq (Mi.mAsg (Mi.mVar 0) (Mi.mgTup 5 (Mi.mgCons (Mi.mgName 1) (Mi.mgCons (Mi.mgName 2) (Mi.mgCons (Mi.mgName 3) (Mi.mgCons (Mi.mgName 4) (Mi.mgCons (Mi.mgName 5) Mi.mgNil))))))) 
    (Mi.mSeq (Mi.mAsg (Mi.mPk Mi.fCat (Mi.mM1 Mi.fJoin (Mi.mC (.str "|")) (Mi.mFrz (Mi.mNew2 Mi.fCatL (Mi.mFrz (Mi.mLst (Mi.mCons (Mi.mD (Mi.mVar 1)) (Mi.mCons (Mi.mD (Mi.mVar 2)) (Mi.mCons (Mi.mD (Mi.mVar 3)) (Mi.mCons (Mi.mD (Mi.mPkC Mi.fStrI (Mi.mCons (Mi.mVar 4) (Mi.M.pure [])))) (Mi.M.pure []))))))) (Mi.mVar 5)))) (Mi.mC (.str "|"))) (Mi.mgName 6)) 
    (Mi.mRet (Mi.mPk Mi.fCat (Mi.mVar 6) (Mi.mCall 1 m_check_digits_of (Mi.mCons (Mi.mD (Mi.mVar 6)) (Mi.M.pure []))))))))
noncomputable def m_write_letter : Mi.Fn := Mi.runF 7 b_write_letter
noncomputable def b_L_odd_parts : Mi.M Mi.Fl := (Mi.mSeq (Mi.mAsgN 2 (Mi.mLst (Mi.mCons (Mi.mD (Mi.mPk Mi.fIxT (Mi.mVar 1) (Mi.mC (.int 0)))) (Mi.mCons (Mi.mD (Mi.mPk Mi.fIxT (Mi.mVar 1) (Mi.mC (.int 1)))) (Mi.mCons (Mi.mD (Mi.mPk Mi.fIxT (Mi.mVar 1) (Mi.mC (.int 2)))) (Mi.M.pure [])))))) 
    (Mi.mSeq (Mi.mAsg (Mi.mFrz (Mi.mNewC Mi.fListOf (Mi.mCons (Mi.mPk Mi.fIxT (Mi.mVar 1) (Mi.mC (.int 4))) (Mi.M.pure [])))) (Mi.mgName 3)) 
    (Mi.mSeq (Mi.mAsg (Mi.mPkC Mi.fStrI (Mi.mCons (Mi.mPk Mi.fIxT (Mi.mVar 1) (Mi.mC (.int 3))) (Mi.M.pure []))) (Mi.mgName 4)) 
    (Mi.mSeq (Mi.mAsg (Mi.mCall 2 m_L_pick (Mi.mCons (Mi.mVar 0) (Mi.mCons (Mi.mC (.int 5)) (Mi.M.pure [])))) (Mi.mgName 5)) 
    (Mi.mSeq (Mi.mIfS (Mi.mB (Mi.mPk Mi.fEq (Mi.mVar 5) (Mi.mC (.int 0)))) (Mi.mAsg (Mi.mD (Mi.mM2 Mi.fReplace2 (Mi.mCall 1 m_L_bad_name (Mi.mCons (Mi.mVar 0) (Mi.M.pure []))) (Mi.mC (.str "|")) (Mi.mC (.str "_")))) (Mi.mgSub (Mi.mVar 2) (Mi.mCall 2 m_L_pick (Mi.mCons (Mi.mVar 0) (Mi.mCons (Mi.mC (.int 3)) (Mi.M.pure [])))))) Mi.mNext) 
    (Mi.mSeq (Mi.mIfS (Mi.mB (Mi.mPk Mi.fEq (Mi.mVar 5) (Mi.mC (.int 1)))) (Mi.mAsg (Mi.mCall 2 m_L_odd_digits (Mi.mCons (Mi.mVar 0) (Mi.mCons (Mi.mD (Mi.mPk Mi.fIxT (Mi.mVar 1) (Mi.mC (.int 3)))) (Mi.M.pure [])))) (Mi.mgName 4)) Mi.mNext) 
    (Mi.mSeq (Mi.mIfS (Mi.mB (Mi.mPk Mi.fEq (Mi.mVar 5) (Mi.mC (.int 2)))) (Mi.mAsg (Mi.mFrz (Mi.mSlL (Mi.mFrz (Mi.mNew2 Mi.fCatL (Mi.mVar 3) (Mi.mFrz (Mi.mLst (Mi.mCons (Mi.mC (.str "")) (Mi.mCons (Mi.mC (.str "x")) (Mi.mCons (Mi.mD (Mi.mCall 2 m_L_text (Mi.mCons (Mi.mVar 0) (Mi.mCons (Mi.mC (.int 9)) (Mi.M.pure []))))) (Mi.mCons (Mi.mC (.str "")) (Mi.mCons (Mi.mC (.str "8")) (Mi.mCons (Mi.mC (.str "/")) (Mi.mCons (Mi.mC (.str "")) (Mi.mCons (Mi.mC (.str "a b")) (Mi.mCons (Mi.mC (.str "#")) (Mi.M.pure [])))))))))))))) (Mi.M.pure none) (Mi.mPart (Mi.mPk Mi.fAdd (Mi.mC (.int 9)) (Mi.mCall 2 m_L_pick (Mi.mCons (Mi.mVar 0) (Mi.mCons (Mi.mC (.int 3)) (Mi.M.pure [])))))))) (Mi.mgName 3)) Mi.mNext) 
    (Mi.mSeq (Mi.mIfS (Mi.mB (Mi.mPk Mi.fEq (Mi.mVar 5) (Mi.mC (.int 3)))) (Mi.mSeq (Mi.mAsg (Mi.mPk Mi.fCat (Mi.mCall 2 m_L_text (Mi.mCons (Mi.mVar 0) (Mi.mCons (Mi.mC (.int 40)) (Mi.M.pure [])))) (Mi.mC (.str "abcdefghijklmnopqrstuvwxyz0123456789 .,-!"))) (Mi.mgName 6)) 
      (Mi.mSeq (Mi.mAsg (Mi.mCall 2 m_L_pick (Mi.mCons (Mi.mVar 0) (Mi.mCons (Mi.mC (.int 8)) (Mi.M.pure [])))) (Mi.mgName 7)) 
      (Mi.mAsg (Mi.mFrz (Mi.mNew2 Mi.fCatL (Mi.mFrz (Mi.mNew2 Mi.fCatL (Mi.mFrz (Mi.mSlL (Mi.mFrz (Mi.mSlL (Mi.mVar 3) (Mi.M.pure none) (Mi.mPart (Mi.mC (.int 7))))) (Mi.M.pure none) (Mi.mPart (Mi.mVar 7)))) (Mi.mFrz (Mi.mLst (Mi.mCons (Mi.mD (Mi.mVar 6)) (Mi.M.pure [])))))) (Mi.mFrz (Mi.mSlL (Mi.mFrz (Mi.mSlL (Mi.mVar 3) (Mi.M.pure none) (Mi.mPart (Mi.mC (.int 7))))) (Mi.mPart (Mi.mVar 7)) (Mi.M.pure none))))) (Mi.mgName 3)))) Mi.mNext) 
    (Mi.mSeq (Mi.mIfS (Mi.mB (Mi.mPk Mi.fEq (Mi.mVar 5) (Mi.mC (.int 4)))) (Mi.mSeq (Mi.mAsg (Mi.mPk Mi.fCat (Mi.mM1 Mi.fJoin (Mi.mC (.str "|")) (Mi.mFrz (Mi.mSlL (Mi.mVar 2) (Mi.M.pure none) (Mi.mPart (Mi.mPk Mi.fAdd (Mi.mC (.int 1)) (Mi.mCall 2 m_L_pick (Mi.mCons (Mi.mVar 0) (Mi.mCons (Mi.mC (.int 3)) (Mi.M.pure []))))))))) (Mi.mC (.str "|"))) (Mi.mgName 8)) 
      (Mi.mRet (Mi.mPk Mi.fCat (Mi.mVar 8) (Mi.mCall 1 m_L_check (Mi.mCons (Mi.mD (Mi.mVar 8)) (Mi.M.pure [])))))) Mi.mNext) 
    (Mi.mRet (Mi.mCall 5 m_L_written (Mi.mCons (Mi.mD (Mi.mPk Mi.fIxL (Mi.mVar 2) (Mi.mC (.int 0)))) (Mi.mCons (Mi.mD (Mi.mPk Mi.fIxL (Mi.mVar 2) (Mi.mC (.int 1)))) (Mi.mCons (Mi.mD (Mi.mPk Mi.fIxL (Mi.mVar 2) (Mi.mC (.int 2)))) (Mi.mCons (Mi.mD (Mi.mVar 4)) (Mi.mCons (Mi.mVar 3) (Mi.M.pure [])))))))))))))))))
noncomputable def m_L_odd_parts : Mi.Fn := Mi.noErrF (Mi.runF 9 b_L_odd_parts)
noncomputable def b_is_written : Mi.M Mi.Fl := (Mi.mTryO (fun e => decide (e = .badValue)) (Mi.mRet (Mi.mPk Mi.fEq (Mi.mCall 1 m_write_letter (Mi.mCons (Mi.mVar 0) (Mi.M.pure []))) (Mi.mVar 1))) (fun er => (Mi.mRet (Mi.mC (.bl false)))))
noncomputable def m_is_written : Mi.Fn := Mi.noErrF (Mi.runF 2 b_is_written)
noncomputable def b_L_odd_text : Mi.M Mi.Fl := (Mi.mSeq (Mi.mAsg (Mi.mCall 5 m_L_written (Mi.mCons (Mi.mD (Mi.mPk Mi.fIxT (Mi.mVar 1) (Mi.mC (.int 0)))) (Mi.mCons (Mi.mD (Mi.mPk Mi.fIxT (Mi.mVar 1) (Mi.mC (.int 1)))) (Mi.mCons (Mi.mD (Mi.mPk Mi.fIxT (Mi.mVar 1) (Mi.mC (.int 2)))) (Mi.mCons (Mi.mD (Mi.mPkC Mi.fStrI (Mi.mCons (Mi.mPk Mi.fIxT (Mi.mVar 1) (Mi.mC (.int 3))) (Mi.M.pure [])))) (Mi.mCons (Mi.mD (Mi.mPk Mi.fIxT (Mi.mVar 1) (Mi.mC (.int 4)))) (Mi.M.pure []))))))) (Mi.mgName 2)) 
    (Mi.mSeq (Mi.mAsg (Mi.mCall 2 m_L_pick (Mi.mCons (Mi.mVar 0) (Mi.mCons (Mi.mC (.int 9)) (Mi.M.pure [])))) (Mi.mgName 3)) 
    (Mi.mSeq (Mi.mIfS (Mi.mB (Mi.mPk Mi.fEq (Mi.mVar 3) (Mi.mC (.int 0)))) (Mi.mSeq (Mi.mAsg (Mi.mPkC Mi.fIntS (Mi.mCons (Mi.mSlS (Mi.mVar 2) (Mi.mPart (Mi.mUn Mi.fNeg (Mi.mC (.int 4)))) (Mi.M.pure none)) (Mi.M.pure []))) (Mi.mgName 4)) 
      (Mi.mSeq (Mi.mAsg (Mi.mPkC Mi.fStrI (Mi.mCons (Mi.mPk Mi.fMod (Mi.mPkC Mi.fInt1 (Mi.mCons (Mi.mPk Mi.fAdd (Mi.mPk Mi.fAdd (Mi.mVar 4) (Mi.mC (.int 1))) (Mi.mCall 2 m_L_pick (Mi.mCons (Mi.mVar 0) (Mi.mCons (Mi.mC (.int 9972)) (Mi.M.pure []))))) (Mi.M.pure []))) (Mi.mC (.int 9973))) (Mi.M.pure []))) (Mi.mgName 5)) 
      (Mi.mRet (Mi.mPk Mi.fCat (Mi.mPk Mi.fCat (Mi.mSlS (Mi.mVar 2) (Mi.M.pure none) (Mi.mPart (Mi.mUn Mi.fNeg (Mi.mC (.int 4))))) (Mi.mPk Mi.fMulS (Mi.mC (.str "0")) (Mi.mPk Mi.fSub (Mi.mC (.int 4)) (Mi.mPkC Mi.fLenS (Mi.mCons (Mi.mVar 5) (Mi.M.pure [])))))) (Mi.mVar 5))))) Mi.mNext) 
    (Mi.mSeq (Mi.mIfS (Mi.mB (Mi.mPk Mi.fEq (Mi.mVar 3) (Mi.mC (.int 1)))) (Mi.mRet (Mi.mSlS (Mi.mVar 2) (Mi.M.pure none) (Mi.mPart (Mi.mPk Mi.fSub (Mi.mPk Mi.fSub (Mi.mPkC Mi.fLenS (Mi.mCons (Mi.mVar 2) (Mi.M.pure []))) (Mi.mC (.int 1))) (Mi.mCall 2 m_L_pick (Mi.mCons (Mi.mVar 0) (Mi.mCons (Mi.mC (.int 4)) (Mi.M.pure [])))))))) Mi.mNext) 
    (Mi.mSeq (Mi.mIfS (Mi.mB (Mi.mPk Mi.fEq (Mi.mVar 3) (Mi.mC (.int 2)))) (Mi.mRet (Mi.mPk Mi.fCat (Mi.mVar 2) (Mi.mPk Mi.fIxS (Mi.mC (.str " 0|a")) (Mi.mCall 2 m_L_pick (Mi.mCons (Mi.mVar 0) (Mi.mCons (Mi.mC (.int 4)) (Mi.M.pure []))))))) Mi.mNext) 
    (Mi.mSeq (Mi.mIfS (Mi.mB (Mi.mPk Mi.fEq (Mi.mVar 3) (Mi.mC (.int 3)))) (Mi.mSeq (Mi.mAsg (Mi.mPk Mi.fSub (Mi.mPk Mi.fSub (Mi.mPkC Mi.fLenS (Mi.mCons (Mi.mVar 2) (Mi.M.pure []))) (Mi.mC (.int 1))) (Mi.mCall 2 m_L_pick (Mi.mCons (Mi.mVar 0) (Mi.mCons (Mi.mC (.int 4)) (Mi.M.pure []))))) (Mi.mgName 6)) 
      (Mi.mRet (Mi.mPk Mi.fCat (Mi.mPk Mi.fCat (Mi.mSlS (Mi.mVar 2) (Mi.M.pure none) (Mi.mPart (Mi.mVar 6))) (Mi.mPk Mi.fIxS (Mi.mC (.str " +-|ax.")) (Mi.mCall 2 m_L_pick (Mi.mCons (Mi.mVar 0) (Mi.mCons (Mi.mC (.int 7)) (Mi.M.pure [])))))) (Mi.mSlS (Mi.mVar 2) (Mi.mPart (Mi.mPk Mi.fAdd (Mi.mVar 6) (Mi.mC (.int 1)))) (Mi.M.pure none))))) Mi.mNext) 
    (Mi.mSeq (Mi.mIfS (Mi.mB (Mi.mPk Mi.fEq (Mi.mVar 3) (Mi.mC (.int 4)))) (Mi.mRet (Mi.mPk Mi.fIxL (Mi.mFrz (Mi.mLst (Mi.mCons (Mi.mC (.str "")) (Mi.mCons (Mi.mC (.str "|")) (Mi.mCons (Mi.mC (.str "||||")) (Mi.mCons (Mi.mC (.str "|||||0000")) (Mi.mCons (Mi.mC (.str "0000")) (Mi.M.pure [])))))))) (Mi.mCall 2 m_L_pick (Mi.mCons (Mi.mVar 0) (Mi.mCons (Mi.mC (.int 5)) (Mi.M.pure [])))))) Mi.mNext) 
    (Mi.mRet (Mi.mCall 2 m_L_odd_parts (Mi.mCons (Mi.mVar 0) (Mi.mCons (Mi.mVar 1) (Mi.M.pure []))))))))))))
noncomputable def m_L_odd_text : Mi.Fn := Mi.noErrF (Mi.runF 7 b_L_odd_text)
noncomputable def b_read_letter : Mi.M Mi.Fl := (Mi.mSeq (Mi.mAsg (Mi.mFrz (Mi.mSplit (Mi.mVar 0) (Mi.mC (.str "|")))) (Mi.mgName 1)) 
    (Mi.mSeq (Mi.mIfS (Mi.mNot (Mi.mB (Mi.mChain Mi.fLe Mi.fLe (Mi.mC (.int 5)) (Mi.mPkC Mi.fLenQ (Mi.mCons (Mi.mVar 1) (Mi.M.pure []))) (Mi.mPk Mi.fAdd (Mi.mC (.int 5)) (Mi.mC (.int 8)))))) (Mi.mRaise .damaged) Mi.mNext) 
    (Mi.mSeq (Mi.mAsg (Mi.mFrz (Mi.mSlL (Mi.mVar 1) (Mi.M.pure none) (Mi.mPart (Mi.mC (.int 4))))) (Mi.mgLst 4 (Mi.mgCons (Mi.mgName 2) (Mi.mgCons (Mi.mgName 3) (Mi.mgCons (Mi.mgName 4) (Mi.mgCons (Mi.mgName 5) Mi.mgNil)))))) 
    (Mi.mSeq (Mi.mIfS (Mi.mOr (Mi.mB (Mi.mPk Mi.fGt (Mi.mPkC Mi.fLenS (Mi.mCons (Mi.mVar 5) (Mi.M.pure []))) (Mi.mC (.int 6)))) (Mi.mNot (Mi.mB (Mi.mM0 Mi.fIsdigit (Mi.mVar 5))))) (Mi.mRaise .damaged) Mi.mNext) 
    (Mi.mSeq (Mi.mAsg (Mi.mTup (Mi.mCons (Mi.mD (Mi.mVar 2)) (Mi.mCons (Mi.mD (Mi.mVar 3)) (Mi.mCons (Mi.mD (Mi.mVar 4)) (Mi.mCons (Mi.mD (Mi.mPkC Mi.fIntS (Mi.mCons (Mi.mVar 5) (Mi.M.pure [])))) (Mi.mCons (Mi.mD (Mi.mBox (Mi.mSlL (Mi.mVar 1) (Mi.mPart (Mi.mC (.int 4))) (Mi.mPart (Mi.mUn Mi.fNeg (Mi.mC (.int 1))))))) (Mi.M.pure []))))))) (Mi.mgName 6)) 
    (Mi.mSeq (Mi.mIfS (Mi.mNot (Mi.mB (Mi.mCall 2 m_is_written (Mi.mCons (Mi.mVar 6) (Mi.mCons (Mi.mD (Mi.mVar 0)) (Mi.M.pure [])))))) (Mi.mRaise .damaged) Mi.mNext) 
    (Mi.mRet (Mi.mVar 6))))))))
noncomputable def m_read_letter : Mi.Fn := Mi.runF 7 b_read_letter
noncomputable def b_L_damaged : Mi.M Mi.Fl := (Mi.mSeq (Mi.mTry 1 (fun _ => true) (Mi.mDrop (Mi.mCall 1 m_read_letter (Mi.mCons (Mi.mD (Mi.mVar 0)) (Mi.M.pure [])))) (fun er => (Mi.mRet (Mi.mPk Mi.fEqD (Mi.mKinds er (Mi.mVar 1)) (Mi.mFrz (Mi.mLst (Mi.mCons (Mi.mC (.str "Damaged")) (Mi.M.pure [])))))))) 
    (Mi.mRet (Mi.mC (.bl false))))
noncomputable def m_L_damaged : Mi.Fn := Mi.noErrF (Mi.runF 2 b_L_damaged)
noncomputable def b_law : Mi.M Mi.Fl := (Mi.mSeq (Mi.mAsg (Mi.mCall 2 m_L_letter (Mi.mConsN (Mi.mCallN 2 m_L_source (Mi.mCons (Mi.mD (Mi.mCall 2 m_L_cell (Mi.mCons (Mi.mVar 0) (Mi.mCons (Mi.mC (.int 0)) (Mi.M.pure []))))) (Mi.mCons (Mi.mC (.int 0)) (Mi.M.pure [])))) (Mi.mConsN (Mi.mCallN 2 m_L_source (Mi.mCons (Mi.mD (Mi.mCall 2 m_L_cell (Mi.mCons (Mi.mVar 0) (Mi.mCons (Mi.mC (.int 1)) (Mi.M.pure []))))) (Mi.mCons (Mi.mC (.int 1)) (Mi.M.pure [])))) (Mi.M.pure [])))) (Mi.mgName 1)) 
    (Mi.mSeq (Mi.mAsg (Mi.mFrz (Mi.mNewC Mi.fListOf (Mi.mCons (Mi.mPk Mi.fIxT (Mi.mVar 1) (Mi.mC (.int 4))) (Mi.M.pure [])))) (Mi.mgName 2)) 
    (Mi.mSeq (Mi.mAsg (Mi.mCall 5 m_L_written (Mi.mCons (Mi.mD (Mi.mPk Mi.fIxT (Mi.mVar 1) (Mi.mC (.int 0)))) (Mi.mCons (Mi.mD (Mi.mPk Mi.fIxT (Mi.mVar 1) (Mi.mC (.int 1)))) (Mi.mCons (Mi.mD (Mi.mPk Mi.fIxT (Mi.mVar 1) (Mi.mC (.int 2)))) (Mi.mCons (Mi.mD (Mi.mPkC Mi.fStrI (Mi.mCons (Mi.mPk Mi.fIxT (Mi.mVar 1) (Mi.mC (.int 3))) (Mi.M.pure [])))) (Mi.mCons (Mi.mVar 2) (Mi.M.pure []))))))) (Mi.mgName 3)) 
    (Mi.mSeq (Mi.mAsg (Mi.mCall 1 m_read_letter (Mi.mCons (Mi.mD (Mi.mVar 3)) (Mi.M.pure []))) (Mi.mgName 4)) 
    (Mi.mSeq (Mi.mIfS (Mi.mOr (Mi.mNot (Mi.mB (Mi.mCall 2 m_L_is_letter (Mi.mCons (Mi.mVar 4) (Mi.mCons (Mi.mVar 1) (Mi.M.pure [])))))) (Mi.mB (Mi.mPk Mi.fNe (Mi.mCall 1 m_write_letter (Mi.mCons (Mi.mVar 4) (Mi.M.pure []))) (Mi.mVar 3)))) (Mi.mRet (Mi.mC (.bl false))) Mi.mNext) 
    (Mi.mSeq (Mi.mDrop (Mi.mMut Mi.fAppend (Mi.mPk Mi.fIxT (Mi.mVar 4) (Mi.mC (.int 4))) (Mi.mCons (Mi.mC (.str "more")) (Mi.M.pure [])))) 
    (Mi.mSeq (Mi.mIfS (Mi.mB (Mi.mPk Mi.fGt (Mi.mPkC Mi.fLenQ (Mi.mCons (Mi.mVar 2) (Mi.M.pure []))) (Mi.mC (.int 0)))) (Mi.mAsg (Mi.mC (.str "other")) (Mi.mgSub (Mi.mPk Mi.fIxT (Mi.mVar 4) (Mi.mC (.int 4))) (Mi.mC (.int 0)))) Mi.mNext) 
    (Mi.mSeq (Mi.mFor (Mi.mIRng1 (Mi.mCons (Mi.mC (.int 4)) (Mi.M.pure []))) (Mi.mgName 5) (Mi.mIfS (Mi.mNot (Mi.mB (Mi.mCall 1 m_L_damaged (Mi.mCons (Mi.mD (Mi.mCall 2 m_L_odd_text (Mi.mConsN (Mi.mCallN 2 m_L_source (Mi.mCons (Mi.mD (Mi.mCall 2 m_L_cell (Mi.mCons (Mi.mVar 0) (Mi.mCons (Mi.mD (Mi.mPk Mi.fAdd (Mi.mC (.int 2)) (Mi.mVar 5))) (Mi.M.pure []))))) (Mi.mCons (Mi.mD (Mi.mPk Mi.fAdd (Mi.mC (.int 2)) (Mi.mVar 5))) (Mi.M.pure [])))) (Mi.mCons (Mi.mVar 1) (Mi.M.pure []))))) (Mi.M.pure []))))) (Mi.mRet (Mi.mC (.bl false))) Mi.mNext)) 
    (Mi.mRet (Mi.mCall 2 m_L_is_letter (Mi.mCons (Mi.mD (Mi.mCall 1 m_read_letter (Mi.mCons (Mi.mD (Mi.mVar 3)) (Mi.M.pure [])))) (Mi.mCons (Mi.mVar 1) (Mi.M.pure [])))))))))))))
noncomputable def m_law : Mi.Fn := Mi.noErrF (Mi.runF 6 b_law)
/-! ### digits: the texts of amounts as lists of signs -/
def fix : Nat → Nat → List Nat
  | 0, _ => []
  | d + 1, m => fix d (m / 10) ++ [48 + m % 10]
theorem fix_len : ∀ d m : Nat, (fix d m).length = d
  | 0, _ => rfl
  | d + 1, m => by
    rw [fix, List.length_append, fix_len d]
    rfl
theorem fix_digits : ∀ d m : Nat, NumText.AllDigits (fix d m)
  | 0, _ => fun c h => by cases h
  | d + 1, m => fun c h => by
    rw [fix] at h
    rcases List.mem_append.mp h with h | h
    · exact fix_digits d (m / 10) c h
    · rw [List.mem_singleton.mp h]
      omega
theorem val_app : ∀ (d : Nat) (p : List Nat) (m : Nat), NumText.digitsVal (p ++ fix d m) = NumText.digitsVal p * 10 ^ d + m % 10 ^ d
  | 0, p, m => by
    rw [fix, List.append_nil, Nat.pow_zero, Nat.mod_one]
    omega
  | d + 1, p, m => by
    have ih := val_app d p (m / 10)
    rw [fix, ← List.append_assoc]
    have s : NumText.digitsVal ((p ++ fix d (m / 10)) ++ [48 + m % 10]) = NumText.digitsVal (p ++ fix d (m / 10)) * 10 + (48 + m % 10 - 48) := by
      unfold NumText.digitsVal
      rw [List.foldl_append]
      rfl
    have e : m % 10 ^ (d + 1) = 10 * (m / 10 % 10 ^ d) + m % 10 := by
      rw [Nat.pow_succ, Nat.mul_comm (10 ^ d) 10, Nat.mod_mul]
      omega
    rw [s, ih, e, Nat.pow_succ, Nat.add_mul, Nat.mul_assoc]
    omega
theorem val_num (d w m : Nat) : NumText.digitsVal (TL.numL w ++ fix d m) = w * 10 ^ d + m % 10 ^ d := by
  rw [val_app, TL.numL_val]
/-- a long one: its head, then so many last digits -/
theorem num_split : ∀ (d n : Nat), 10 ^ d ≤ n → TL.numL n = TL.numL (n / 10 ^ d) ++ fix d n
  | 0, n, _ => by rw [fix, List.append_nil, Nat.pow_zero, Nat.div_one]
  | d + 1, n, h => by
    have p : 0 < 10 ^ d := Nat.pow_pos (by decide)
    rw [Nat.pow_succ] at h
    have ih := num_split d (n / 10) (by rw [Nat.le_div_iff_mul_le (by decide)]; exact h)
    rw [TL.numL_step (by omega), ih, fix, List.append_assoc, Nat.div_div_eq_div_mul, Nat.pow_succ, Nat.mul_comm 10]
/-- a short one, filled with zeros -/
theorem num_fill : ∀ (d m : Nat), m < 10 ^ (d + 1) → List.replicate (d + 1 - (TL.numL m).length) 48 ++ TL.numL m = fix (d + 1) m
  | 0, m, h => by
    rw [Nat.pow_one] at h
    rw [TL.numL_lt h, fix, fix, Nat.mod_eq_of_lt h]
    rfl
  | d + 1, m, h => by
    rcases Nat.lt_or_ge m 10 with c | c
    · have ih := num_fill d 0 (Nat.pow_pos (by decide))
      rw [TL.numL_lt (by decide)] at ih
      rw [TL.numL_lt c, fix, Nat.mod_eq_of_lt c, show m / 10 = 0 by omega, ← ih]
      simp only [List.length_singleton, Nat.add_sub_cancel]
      rw [List.replicate_succ']
    · have ih := num_fill d (m / 10) (by rw [Nat.pow_succ] at h; omega)
      rw [TL.numL_step c, fix, ← ih, List.length_append, List.length_singleton, ← List.append_assoc]
      rw [show d + 1 + 1 - ((TL.numL (m / 10)).length + 1) = d + 1 - (TL.numL (m / 10)).length by omega]
theorem fix_mod : ∀ (d n : Nat), fix d (n % 10 ^ d) = fix d n
  | 0, _ => rfl
  | d + 1, n => by
    have p : 0 < 10 ^ d := Nat.pow_pos (by decide)
    have e : n % 10 ^ (d + 1) = 10 * (n / 10 % 10 ^ d) + n % 10 := by
      rw [Nat.pow_succ, Nat.mul_comm (10 ^ d) 10, Nat.mod_mul]
      omega
    rw [fix, fix, e, show (10 * (n / 10 % 10 ^ d) + n % 10) / 10 = n / 10 % 10 ^ d by omega, fix_mod d (n / 10), show (10 * (n / 10 % 10 ^ d) + n % 10) % 10 = n % 10 by omega]
/-- filled to one digit more than d -/
theorem num_full (d n : Nat) : List.replicate (d + 1 - (TL.numL n).length) 48 ++ TL.numL n = TL.numL (n / 10 ^ d) ++ fix d n := by
  rcases Nat.lt_or_ge n (10 ^ d) with c | c
  · have e := num_fill d n (Nat.lt_of_lt_of_le c (Nat.pow_le_pow_right (by decide) (by omega)))
    rw [e, Nat.div_eq_of_lt c, TL.numL_lt (by decide)]
    have f : ∀ (d n : Nat), n < 10 ^ d → fix (d + 1) n = 48 :: fix d n := by
      intro d
      induction d with
      | zero => intro n h; rw [Nat.pow_zero] at h; rw [show n = 0 by omega]; rfl
      | succ d ih =>
        intro n h
        rw [fix, ih (n / 10) (by rw [Nat.pow_succ] at h; omega)]
        rfl
    rw [f d n c]
    rfl
  · have e := num_split d n c
    have l : d + 1 ≤ (TL.numL n).length := by
      rw [e, List.length_append, fix_len]
      have := List.length_pos_iff.mpr (TL.numL_ne (n / 10 ^ d))
      omega
    rw [Nat.sub_eq_zero_of_le l, List.replicate_zero, List.nil_append, e]
/-- str.zfill, str.ljust with "0" -/
theorem zfill_num {d m : Nat} (h : m < 10 ^ (d + 1)) : Txt.zfill (SX.S (TL.numL m)) ((d + 1 : Nat) : Int) = SX.S (fix (d + 1) m) := by
  have l := TL.numL_len (k := d + 1) (by omega) h
  have hh : ∀ c, (TL.numL m)[0]? = some c → 48 ≤ c ∧ c ≤ 57 := fun c e => TL.numL_digits m c (List.mem_of_getElem? e)
  unfold Txt.zfill
  rw [SX.S_len]
  split
  · rename_i c
    have e := num_fill d m h
    rw [show d + 1 - (TL.numL m).length = 0 by omega, List.replicate_zero, List.nil_append] at e
    rw [e]
  · unfold zfilled
    have z : (SX.S (TL.numL m)).cps[0]? = (TL.numL m)[0]? := by simp [SX.S]
    rw [z]
    split
    · rename_i e; have := hh _ e; omega
    · rename_i e; have := hh _ e; omega
    · unfold Builtin.Str.padded
      rw [← num_fill d m h]
      simp
theorem fix_zero : ∀ k : Nat, fix k 0 = List.replicate k 48
  | 0 => rfl
  | k + 1 => by rw [fix, Nat.zero_div, fix_zero k, List.replicate_succ']
theorem ljust_fix (d j m : Nat) : Txt.ljustF (SX.S (fix j m)) (d : Int) 48 = SX.S (fix j m ++ fix (d - j) 0) := by
  unfold Txt.ljustF
  rw [SX.S_len, fix_len, fix_zero]
  split
  · rename_i c
    rw [show d - j = 0 by omega, List.replicate_zero, List.append_nil]
  · unfold Builtin.Str.padded
    simp
theorem one_digit : ∀ n : _root_.Fin 10, Unicode.isDigit (48 + n.val) = true := by decide +kernel
theorem isdigit_S {a : List Nat} (h : NumText.AllDigits a) (hne : a ≠ []) : Txt.isdigit (SX.S a) = true := by
  unfold Txt.isdigit
  rw [SX.S_len, Bool.and_eq_true]
  refine ⟨decide_eq_true (List.length_pos_iff.mpr hne), ?_⟩
  simp only [SX.S, List.all_toArray, List.all_eq_true]
  intro c hc
  have r := h c hc
  have := one_digit ⟨c - 48, by omega⟩
  rw [show 48 + (c - 48) = c by omega] at this
  exact this
theorem starts_S (c d : Nat) (l : List Nat) : Txt.startswith (SX.S (c :: l)) (SX.S [d]) = decide (c = d) := by
  unfold Txt.startswith
  rw [StrLaws.subAt_eq, SX.S_len, SX.S_len]
  simp
  by_cases e : c = d <;> simp [e]
theorem rmp_hit (l : List Nat) : Txt.removeprefix (SX.S (45 :: l)) (SX.S [45]) = SX.S l := by
  unfold Txt.removeprefix
  rw [StrLaws.subAt_eq, SX.S_len, SX.S_len]
  simp [Txt.affix]
  rw [if_neg (by rw [SX.S_len]; simp)]
  refine TL.ext_tl ?_
  rw [TL.tl_strSub]
  simp [TL.tl]
theorem rmp_miss {c : Nat} (l : List Nat) (h : c ≠ 45) : Txt.removeprefix (SX.S (c :: l)) (SX.S [45]) = SX.S (c :: l) := by
  unfold Txt.removeprefix
  rw [StrLaws.subAt_eq, SX.S_len, SX.S_len]
  simp [Txt.affix, h]
theorem numL_head : ∀ n : Nat, ∃ c l, TL.numL n = c :: l ∧ 48 ≤ c ∧ c ≤ 57 ∧ (n ≠ 0 → c ≠ 48) ∧ (n = 0 → c = 48 ∧ l = []) := by
  intro n
  induction n using Nat.strongRecOn with
  | _ n ih =>
    rcases Nat.lt_or_ge n 10 with h | h
    · exact ⟨48 + n, [], TL.numL_lt h, by omega, by omega, by omega, fun z => ⟨by omega, rfl⟩⟩
    · obtain ⟨c, l, e, h1, h2, h3, _⟩ := ih (n / 10) (by omega)
      exact ⟨c, l ++ [48 + n % 10], by rw [TL.numL_step h, e]; rfl, h1, h2, fun _ => h3 (by omega), by omega⟩
section
variable {X : Cx}
/-- text.ljust(width, sign) -/
theorem mt_ljustF : MtR X "str.ljust" (fun x xs H Q => ∃ (a f : Str) (i : Int), x = .str a ∧ xs = [.int i, .str f] ∧ PadOk i = true ∧ f.length = 1 ∧ Q (.str (Txt.ljustF a i (f.cps.getD 0 0))) H) := by
  intro pins s σ H x xs v us Q I rx rs h
  obtain ⟨a, f, i, rfl, rfl, hp, hf, h⟩ := h
  obtain ⟨t, rfl⟩ := rx
  cases rs with
  | cons r1 rs =>
    cases rs with
    | cons r2 rs =>
      cases rs
      obtain ⟨u, rfl⟩ := r1
      obtain ⟨z, rfl⟩ := r2
      exact PyProof.Rows.ljust_fill hp hf fun t' k => ⟨.str _, H, I.tok k, ⟨t', rfl⟩, h⟩
end

--== cut
/-! ### the cells of a script, and what is drawn of them -/
theorem szl {n : Nat} (h : n ≤ 100000) : n ≤ sizeLine := Nat.le_trans h (by decide)
theorem cell_eq (ns : List Int) (k : Nat) (S : List Mi.Ob) : m_L_cell [.dat (.lst (ns.map Mi.D.int)), .dat (.int k)] [] S = .ok (.dat (.int (Mi.getI ns k))) [] S := by
  refine Mi.pure_eq ?_
  unfold b_L_cell
  walk_at "sq"
  walk_at "rp"
  rw [List.length_map]
  split
  · rw [Mi.atI_ints (n := ns.length) rfl (by omega)]
    exact ⟨_, rfl, rfl⟩
  · unfold Mi.getI
    rw [List.getD, List.getElem?_eq_none (by omega)]
    rfl
def Sr (b : Mi.BX) : Prop := ∃ x y : Int, b = .lst [.int x, .int y] ∧ 0 ≤ y ∧ y < 2147483648
theorem source_eq (c : Int) (bc : Builtin.Int.intBits c ≤ 1048576) (k : Nat) (hk : k ≤ 100000) (S : List Mi.Ob) : ∃ b, m_L_source [.dat (.int c), .dat (.int k)] [] S = .ok (.new b) [] S ∧ Sr b := by
  refine Mi.new_run ?_
  unfold b_L_source
  walk_at "sq"
  walk_at "rp"
  split
  · exact ⟨by decide, _, _, rfl, by omega, by omega⟩
  · refine ⟨Kv.mulX bc (b := 64) (by decide), Kv.mulX (a := 64) (b := 64) (Kv.bits64 (by omega) (by omega)) (by decide), by decide, _, _, rfl, Int.emod_nonneg _ (by decide), ?_⟩
    have := Int.emod_lt_of_pos (c * 7919 + (k : Int) * 104729 + 1) (show (0 : Int) < 2147483647 by decide)
    omega
theorem pick_eq {b : Mi.BX} (hb : Sr b) {many : Int} (h0 : 0 < many) (h1 : many < 2 ^ 60) (S : List Mi.Ob) : ∃ r b', m_L_pick [.io 0, .dat (.int many)] [b] S = .ok (.dat (.int r)) [b'] S ∧ 0 ≤ r ∧ r < many ∧ Sr b' := by
  have : ∃ d io', m_L_pick [.io 0, .dat (.int many)] [b] S = .ok (.dat d) io' S ∧ ∃ r b', d = .int r ∧ io' = [b'] ∧ 0 ≤ r ∧ r < many ∧ Sr b' := by
    refine Mi.gen_run ?_
    obtain ⟨x, y, rfl, y0, y1⟩ := hb
    have hdv : ∀ i : Int, CDivW i many := fun i => ⟨h0, by
      have : many.natAbs.log2 < 64 := PySem.Flt.log2_lt_of (k := 64) (by decide) (by omega)
      omega⟩
    unfold b_L_pick
    walk_at "sq"
    walk_at "rp"
    split
    · walk_at "sq"
      walk_at "rp"
      refine ⟨h0, ?_⟩
      walk_at "sq"
      walk_at "rp"
      exact ⟨hdv _, _, _, rfl, rfl, Int.emod_nonneg _ (by omega), Int.emod_lt_of_pos _ h0, _, _, rfl, y0, y1⟩
    · have e1 : 0 ≤ (y * 48271 + 12345) % 2147483647 := Int.emod_nonneg _ (by decide)
      have e2 : (y * 48271 + 12345) % 2147483647 < 2147483647 := Int.emod_lt_of_pos _ (by decide)
      have by1 : Builtin.Int.intBits y ≤ 64 := Kv.bits64 (by omega) (by omega)
      walk_at "sq"
      walk_at "rp"
      refine ⟨Kv.mulX by1 (b := 64) (by decide), ?_⟩
      generalize (y * 48271 + 12345) % 2147483647 = z at *
      have by2 : Builtin.Int.intBits z ≤ 64 := Kv.bits64 (by omega) (by omega)
      walk_at "sq"
      walk_at "rp"
      exact ⟨Kv.mulX by2 (b := 64) (by decide), ⟨by decide, by decide⟩, Kv.cdiv_16 ▸ trivial, h0, _, _, rfl, rfl, Int.emod_nonneg _ (by omega), Int.emod_lt_of_pos _ h0, _, _, rfl, e1, by omega⟩
  obtain ⟨_, _, e, r, b', rfl, rfl, h⟩ := this
  exact ⟨r, b', e, h⟩

--== cut
/-! ### names and texts -/
def lets : List Nat := (Str.ofString "abcdefghijklmnopqrstuvwxyz").cps.toList
def digs : List Nat := (Str.ofString "0123456789").cps.toList
def lds : List Nat := (Str.ofString "abcdefghijklmnopqrstuvwxyz0123456789").cps.toList
theorem sLets : Str.ofString "abcdefghijklmnopqrstuvwxyz" = SX.S lets := rfl
theorem sDigs : Str.ofString "0123456789" = SX.S digs := rfl
theorem sLds : Str.ofString "abcdefghijklmnopqrstuvwxyz0123456789" = SX.S lds := rfl
theorem sE : Str.ofString "" = SX.S [] := rfl
theorem s0 : Str.ofString "0" = SX.S [48] := rfl
theorem sBar : Str.ofString "|" = SX.S [124] := rfl
theorem isz {u v : List Nat} : (SX.S u = SX.S v) = (u = v) := propext ⟨SX.S_inj, fun z => by rw [z]⟩
theorem fIxS_S {l : List Nat} {i : Int} {c : Nat} (hl : l.length ≤ 100000) (h : atI l i = some c) : Mi.fIxS (.str (SX.S l)) (.int i) = some (.str (SX.S [c])) := by
  show (if (SX.S l).length ≤ sizeLine then (atI l i).map fun c => Mi.D.str ⟨#[c]⟩ else none) = _
  rw [SX.S_len, if_pos (szl hl), h]
  rfl
theorem atI_at {α : Type} {l : List α} {n : Int} (h0 : 0 ≤ n) (h1 : n < l.length) : ∃ c, atI l n = some c ∧ l[n.toNat]? = some c := by
  obtain ⟨k, hk⟩ := Int.eq_ofNat_of_zero_le h0
  have hk2 : k < l.length := by omega
  subst hk
  exact ⟨l[k], atI_nat (List.getElem?_eq_getElem hk2), by simp [hk2]⟩
def NmOk (l : List Nat) : Prop := 1 ≤ l.length ∧ l.length ≤ 12 ∧ (∃ c ∈ l.head?, c ∈ lets) ∧ ∀ c ∈ l, c ∈ lets ∨ c ∈ digs
theorem lds26 : ∀ k : _root_.Fin 26, ∃ c ∈ lds[k.val]?, c ∈ lets := by decide +kernel
theorem ldsl : lds.length = 36 := by decide +kernel
theorem lds36 : ∀ c ∈ lds, c ∈ lets ∨ c ∈ digs := by decide +kernel
def invNm (S : List Mi.Ob) : Nat → Mi.St → Prop := fun i st => ∃ (l : List Nat) (x : Option Mi.SV) (b : Mi.BX), st = ⟨[some (.io 0), some (.dat (.str (SX.S lds))), some (.dat (.str (SX.S l))), x], [b], S⟩ ∧ Sr b ∧ l.length = i + 1 ∧ (∃ c ∈ l.head?, c ∈ lets) ∧ ∀ c ∈ l, c ∈ lets ∨ c ∈ digs
theorem name_eq {b : Mi.BX} (hb : Sr b) (S : List Mi.Ob) : ∃ l b', m_L_name [.io 0] [b] S = .ok (.dat (.str (SX.S l))) [b'] S ∧ NmOk l ∧ Sr b' := by
  have : ∃ d io', m_L_name [.io 0] [b] S = .ok (.dat d) io' S ∧ ∃ l b', d = .str (SX.S l) ∧ io' = [b'] ∧ NmOk l ∧ Sr b' := by
    refine Mi.gen_run ?_
    obtain ⟨r, b1, e1, r0, r1, hb1⟩ := pick_eq hb (many := 26) (by decide) (by decide) S
    obtain ⟨c, c1, c2⟩ := atI_at (l := lds) r0 (by rw [ldsl]; omega)
    have hc : c ∈ lets := by
      obtain ⟨k, hk⟩ := Int.eq_ofNat_of_zero_le r0
      obtain ⟨c', h1, h2⟩ := lds26 ⟨k, by omega⟩
      rw [hk] at c2
      rw [Int.toNat_natCast, h1] at c2
      cases c2
      exact h2
    unfold b_L_name
    walk_at "sq"
    walk_at "rp"
    rw [sLds]
    refine Mi.rp_cut (fun st => st = ⟨[some (.io 0), some (.dat (.str (SX.S lds))), some (.dat (.str (SX.S [c]))), none], [b1], S⟩) ?_ ?_
    · walk_at "rp"
      refine Mi.rp_callM e1 rfl rfl Mi.nod1 rfl rfl ?_
      walk_at "rp"
      exact ⟨_, fIxS_S (by decide +kernel) c1, by walk_at "rp"⟩
    intro st h
    subst h
    obtain ⟨n, b2, e2, n0, n1, hb2⟩ := pick_eq hb1 (many := 12) (by decide) (by decide) S
    walk_at "sq"
    with_reducible refine Mi.rp_rng1 n (invNm S) (by omega) ?_ ?_ ?_
    · walk_at "rp"
      refine Mi.rp_callM e2 rfl rfl Mi.nod1 rfl rfl ?_
      walk_at "rp"
      exact ⟨[c], _, _, rfl, hb2, rfl, ⟨c, rfl, hc⟩, fun x hx => by rw [List.mem_singleton.mp hx]; exact .inl hc⟩
    · intro i st hi h
      obtain ⟨l, x, b, rfl, hb, hl, hh, ha⟩ := h
      obtain ⟨r, b', e, r0, r1, hb'⟩ := pick_eq hb (many := 36) (by decide) (by decide) S
      obtain ⟨c, c1, c2⟩ := atI_at (l := lds) r0 (by rw [ldsl]; omega)
      walk_at "rp"
      refine Mi.rp_callM e rfl rfl Mi.nod1 rfl rfl ?_
      walk_at "rp"
      refine ⟨_, fIxS_S (by decide +kernel) c1, ?_⟩
      walk_at "rp"
      rw [SX.S_cat, SX.S_len, SX.S_len]
      refine ⟨szl (by simp only [List.length_singleton]; omega), l ++ [c], _, _, rfl, hb', by simp [hl], ?_, ?_⟩
      · obtain ⟨d, h1, h2⟩ := hh
        cases l with
        | nil => cases h1
        | cons u r => exact ⟨d, h1, h2⟩
      · intro u hu
        rcases List.mem_append.mp hu with hu | hu
        · exact ha u hu
        · rw [List.mem_singleton.mp hu]
          exact lds36 c (List.mem_of_getElem? c2)
    · intro st h
      obtain ⟨l, x, b, rfl, hb, hl, hh, ha⟩ := h
      walk_at "rp"
      exact ⟨l, b, rfl, rfl, ⟨by omega, by omega, hh, ha⟩, hb⟩
  obtain ⟨_, _, e, l, b', rfl, rfl, h⟩ := this
  exact ⟨l, b', e, h⟩

def signsT : List Nat := (Str.ofString " !\"#$&'()*+,-./0123456789:;<=>?@ABCDEFGHIJKLMNOPQRSTUVWXYZ[\\]^_`").cps.toList ++ (Str.ofString "abcdefghijklmnopqrstuvwxyz{}~").cps.toList
theorem sTa : Str.ofString " !\"#$&'()*+,-./0123456789:;<=>?@ABCDEFGHIJKLMNOPQRSTUVWXYZ[\\]^_`" ++ Str.ofString "abcdefghijklmnopqrstuvwxyz{}~" = SX.S signsT := SX.S_cat _ _
theorem signsTl : signsT.length = 93 := by decide +kernel
def Fd (l : List Nat) : Prop := ∀ c ∈ l, 32 ≤ c ∧ c ≤ 126 ∧ c ≠ 124
theorem signsT_ok : Fd signsT := by unfold Fd; decide +kernel
def invTx (S : List Mi.Ob) (sz most : Int) : Nat → List Mi.D → Mi.St → Prop := fun i acc st => ∃ (l : List Nat) (b : Mi.BX) (x : Option Mi.SV), st = ⟨[some (.io 0), some (.dat (.int most)), some (.dat (.str (SX.S signsT))), some (.dat (.int sz)), x], [b], S⟩ ∧ Sr b ∧ acc = l.map (fun c => Mi.D.str (SX.S [c])) ∧ l.length = i ∧ Fd l
theorem strsD_S (l : List (List Nat)) : Mi.strsD (l.map fun c => Mi.D.str (SX.S c)) = some (l.map SX.S) := by
  induction l with
  | nil => rfl
  | cons c l ih => rw [List.map_cons, List.map_cons]; unfold Mi.strsD; rw [ih]; rfl
theorem joinL_nil : ∀ l : List Nat, TL.joinL [] (l.map fun c => [c]) = l
  | [] => rfl
  | [c] => rfl
  | c :: d :: r => by
    have := joinL_nil (d :: r)
    show [c] ++ ([] ++ TL.joinL [] ((d :: r).map fun c => [c])) = c :: d :: r
    rw [this]
    rfl
def szs (ls : List (List Nat)) : Nat := (ls.map List.length).sum
theorem join_eq (sep : List Nat) (ls : List (List Nat)) (h : szs ls + ls.length * sep.length ≤ 16777216) : Mi.fJoin (.str (SX.S sep)) (.lst (ls.map fun c => Mi.D.str (SX.S c))) = some (.str (SX.S (TL.joinL sep ls))) := by
  unfold Mi.fJoin
  dsimp only
  rw [strsD_S]
  dsimp only
  have e1 : (ls.map SX.S).map (·.length) = ls.map List.length := by
    rw [List.map_map]
    exact List.map_congr_left fun x _ => SX.S_len x
  rw [e1, List.length_map, SX.S_len, if_pos (show (ls.map List.length).sum + _ ≤ _ from h), SX.join_S]
theorem szs_one : ∀ l : List Nat, szs (l.map fun c => [c]) = l.length
  | [] => rfl
  | c :: r => by
    have := szs_one r
    unfold szs at *
    rw [List.map_cons, List.map_cons, List.sum_cons, this]
    simp
    omega
theorem text_eq {b : Mi.BX} (hb : Sr b) {most : Int} (m0 : 4 ≤ most) (m1 : most ≤ 1000) (S : List Mi.Ob) : ∃ l b', m_L_text [.io 0, .dat (.int most)] [b] S = .ok (.dat (.str (SX.S l))) [b'] S ∧ Fd l ∧ (l.length : Int) ≤ most ∧ Sr b' := by
  have : ∃ d io', m_L_text [.io 0, .dat (.int most)] [b] S = .ok (.dat d) io' S ∧ ∃ l b', d = .str (SX.S l) ∧ io' = [b'] ∧ Fd l ∧ (l.length : Int) ≤ most ∧ Sr b' := by
    refine Mi.gen_run ?_
    obtain ⟨r, b1, e1, r0, r1, hb1⟩ := pick_eq hb (many := 5) (by decide) (by decide) S
    unfold b_L_text
    walk_at "sq"
    walk_at "rp"
    walk_at "sq"
    walk_at "rp"
    rw [sTa]
    refine ⟨szl (by decide +kernel), ?_⟩
    walk_at "sq"
    walk_at "rp"
    refine Mi.rp_callM e1 rfl rfl Mi.nod1 rfl rfl ?_
    walk_at "rp"
    refine Mi.rp_cut (fun st => ∃ (sz : Int) (b : Mi.BX), st = ⟨[some (.io 0), some (.dat (.int most)), some (.dat (.str (SX.S signsT))), some (.dat (.int sz)), none], [b], S⟩ ∧ Sr b ∧ 0 ≤ sz ∧ sz ≤ most) ?_ ?_
    · obtain ⟨q, b2, e2, q0, q1, hb2⟩ := pick_eq hb1 (many := most + 1) (by omega) (by omega) S
      walk_at "rp"
      split
      · refine Mi.rp_callM e2 rfl rfl Mi.nod1 rfl rfl ?_
        walk_at "rp"
        exact ⟨q, b2, rfl, rfl, hb2, q0, by omega⟩
      · exact ⟨r, b1, rfl, rfl, hb1, r0, by omega⟩
    intro st h
    obtain ⟨sz, b, rfl, hb, s0', s1⟩ := h
    walk_at "rp"
    refine Mi.rp_lc_rng sz (invTx S sz most) (by omega) rfl ⟨[], b, _, rfl, hb, rfl, rfl, fun c hc => by cases hc⟩ ?_ ?_
    · intro i acc st hi h hl
      obtain ⟨l, b, x, rfl, hb, rfl, hli, hf⟩ := h
      obtain ⟨q, b2, e2, q0, q1, hb2⟩ := pick_eq hb (many := 93) (by omega) (by omega) S
      obtain ⟨c, c1, c2⟩ := atI_at (l := signsT) q0 (by rw [signsTl]; omega)
      walk_at "rp"
      rw [SX.S_len, signsTl]
      refine ⟨by decide, ?_⟩
      refine Mi.rp_callM e2 rfl rfl Mi.nod1 rfl rfl ?_
      walk_at "rp"
      refine ⟨_, fIxS_S (by rw [signsTl]; decide) c1, l ++ [c], b2, _, rfl, hb2, by simp, by simp [hli], fun u hu => ?_⟩
      rcases List.mem_append.mp hu with hu | hu
      · exact hf u hu
      · rw [List.mem_singleton.mp hu]
        exact signsT_ok c (List.mem_of_getElem? c2)
    · intro acc st h hl
      obtain ⟨l, b, x, rfl, hb, rfl, hli, hf⟩ := h
      walk_at "rp"
      rw [sE, show l.map (fun c => Mi.D.str (SX.S [c])) = (l.map fun c => [c]).map (fun c => Mi.D.str (SX.S c)) by rw [List.map_map]; rfl]
      refine ⟨_, join_eq [] _ (by rw [szs_one]; simp; omega), l, b, ?_, rfl, hf, by omega, hb⟩
      rw [joinL_nil]
  obtain ⟨_, _, e, l, b', rfl, rfl, h⟩ := this
  exact ⟨l, b', e, h⟩

--== cut
/-! ### letters: the text of one -/
def wsum : Nat → List Nat → Nat
  | _, [] => 0
  | k, c :: r => k * c + wsum (k + 1) r
def chk (b : List Nat) : List Nat := fix 4 (wsum 1 b % 9973)
theorem chk_len (b : List Nat) : (chk b).length = 4 := fix_len _ _
theorem wsum_snoc (c : Nat) : ∀ (l : List Nat) (k : Nat), wsum k (l ++ [c]) = wsum k l + (k + l.length) * c
  | [], k => by simp [wsum]
  | d :: l, k => by
    rw [List.cons_append, wsum, wsum, wsum_snoc c l (k + 1), List.length_cons, show k + 1 + l.length = k + (l.length + 1) by omega]
    omega
/-- signs of one byte -/
def Asc (l : List Nat) : Prop := ∀ c ∈ l, c ≤ 126
theorem wsum_le : ∀ (l : List Nat) (k : Nat), Asc l → wsum k l ≤ (k + l.length) * l.length * 126
  | [], k, _ => by simp [wsum]
  | c :: l, k, h => by
    have ih := wsum_le l (k + 1) (fun x hx => h x (by simp [hx]))
    have hc := h c (by simp)
    rw [wsum, List.length_cons]
    have e1 : k * c ≤ (k + (l.length + 1)) * 126 := Nat.mul_le_mul (by omega) hc
    have e2 : (k + 1 + l.length) = k + (l.length + 1) := by omega
    rw [e2] at ih
    have e3 : (k + (l.length + 1)) * (l.length + 1) * 126 = (k + (l.length + 1)) * l.length * 126 + (k + (l.length + 1)) * 126 := by
      rw [Nat.mul_add, Nat.mul_one, Nat.add_mul]
    omega
theorem digs_of {m : Nat} (h : m < 9973) : List.replicate (4 - (TL.numL m).length) 48 ++ TL.numL m = fix 4 m := num_fill 3 m (by omega)
theorem rep_fold (c : Nat) : ∀ (k : Nat) (a : Array Nat), (List.replicate k (#[c] : Array Nat)).foldl (· ++ ·) a = (a.toList ++ List.replicate k c).toArray
  | 0, a => by simp
  | k + 1, a => by
    rw [List.replicate_succ, List.foldl_cons, rep_fold c k]
    simp [List.replicate_succ]
theorem rep_S (c : Nat) {n : Int} (h : 0 ≤ n) : Mi.repS (SX.S [c]) n = SX.S (List.replicate n.toNat c) := by
  unfold Mi.repS
  split
  · rw [show n.toNat = 0 by omega]
    rfl
  · split
    · rename_i h1 h2
      have : n = 1 := by simpa [SX.S_len] using h2
      subst this
      rfl
    · exact congrArg Str.mk ((rep_fold c n.toNat #[]).trans (by simp))
theorem lg (k : Nat) (hk : k ≤ 1000000000000) : (k : Int).natAbs.log2 < 1920 := Nat.lt_of_lt_of_le (PySem.Flt.log2_lt_of (k := 64) (by decide) (by rw [Int.natAbs_natCast]; omega)) (by decide)
theorem ord_S (c : Nat) : Mi.fOrd [.str (SX.S [c])] = some (.int (c : Int)) := rfl
def invCk (t : List Nat) (S : List Mi.Ob) : Nat → Mi.St → Prop := fun i st => ∃ x : Option Mi.SV, st = ⟨[some (.dat (.str (SX.S t))), some (.dat (.int (wsum 1 (t.take i) : Nat))), x, none], [], S⟩
theorem check_eq {t : List Nat} (ht : Asc t) (hl : t.length ≤ 1000) (S : List Mi.Ob) : m_L_check [.dat (.str (SX.S t))] [] S = .ok (.dat (.str (SX.S (chk t)))) [] S := by
  refine Mi.pure_eq ?_
  unfold b_L_check
  walk_at "sq"
  walk_at "rp"
  refine Mi.rp_cut (fun st => ∃ x : Option Mi.SV, st = ⟨[some (.dat (.str (SX.S t))), some (.dat (.int (wsum 1 t : Nat))), x, none], [], S⟩) ?_ ?_
  · with_reducible refine Mi.rp_rng1 (t.length : Int) (invCk t S) (by omega) ?_ ?_ ?_
    · walk_at "rp"
      rw [SX.S_len]
      exact ⟨szl (by omega), rfl, none, by rw [List.take_zero]; rfl⟩
    · intro i st hi h
      obtain ⟨x, rfl⟩ := h
      have hi2 : i < t.length := by omega
      walk_at "rp"
      refine ⟨_, fIxS_S (c := t[i]) (by omega) (atI_nat (List.getElem?_eq_getElem hi2)), ?_⟩
      walk_at "rp"
      refine ⟨_, ord_S _, ?_⟩
      walk_at "rp"
      have bc : t[i] ≤ 126 := ht _ (List.getElem_mem hi2)
      refine ⟨Kv.mulX (a := 64) (b := 64) (Kv.bits64 (by omega) (by omega)) (Kv.bits64 (by omega) (by omega)), some (.dat (.int (i : Int))), ?_⟩
      rw [List.take_succ_eq_append_getElem hi2, wsum_snoc, List.length_take, Nat.min_eq_left (by omega)]
      have : (((1 + i) * t[i] : Nat) : Int) = ((i : Int) + 1) * (t[i] : Int) := by rw [Int.natCast_mul]; congr 1; omega
      rw [Int.natCast_add, this]
    · intro st h
      obtain ⟨x, rfl⟩ := h
      rw [Int.toNat_natCast, List.take_length]
      exact ⟨x, rfl⟩
  intro st h
  obtain ⟨x, rfl⟩ := h
  walk_at "sq"
  walk_at "rp"
  have hm : wsum 1 t % 9973 < 9973 := Nat.mod_lt _ (by decide)
  rw [show ((wsum 1 t : Nat) : Int) % 9973 = ((wsum 1 t % 9973 : Nat) : Int) from rfl, SX.num_S, s0]
  have hl4 : (TL.numL (wsum 1 t % 9973)).length ≤ 4 := TL.numL_len (by decide) (by omega)
  have e4 : (4 - ((TL.numL (wsum 1 t % 9973)).length : Int)).toNat = 4 - (TL.numL (wsum 1 t % 9973)).length := by omega
  rw [SX.S_len, rep_S 48 (show (0 : Int) ≤ 4 - ((TL.numL (wsum 1 t % 9973)).length : Int) by omega), SX.S_cat, e4, digs_of hm, SX.S_len, SX.S_len, List.length_replicate]
  exact ⟨lg _ (by omega), szl (by omega), by omega, by omega, by simp only [List.length_singleton]; omega, szl (by omega), szl (by omega), rfl⟩

/-! ### letters -/
structure Lt where
  kind : List Nat
  sender : List Nat
  receiver : List Nat
  number : Nat
  fields : List (List Nat)
def Lt.d (L : Lt) : Mi.D := .tup [.str (SX.S L.kind), .str (SX.S L.sender), .str (SX.S L.receiver), .int (L.number : Int), .lst (L.fields.map fun f => .str (SX.S f))]
def parts (k s r dg : List Nat) (fs : List (List Nat)) : List (List Nat) := [k, s, r, dg] ++ fs
def bodyOf (k s r dg : List Nat) (fs : List (List Nat)) : List Nat := TL.joinL [124] (parts k s r dg fs) ++ [124]
def Lt.body (L : Lt) : List Nat := bodyOf L.kind L.sender L.receiver (TL.numL L.number) L.fields
def Lt.text (L : Lt) : List Nat := L.body ++ chk L.body
def FdsOk (fs : List (List Nat)) : Prop := fs.length ≤ 8 ∧ ∀ f ∈ fs, f.length ≤ 40 ∧ 124 ∉ f
structure Lt.Ok (L : Lt) : Prop where
  kind : NmOk L.kind
  sender : NmOk L.sender
  receiver : NmOk L.receiver
  number : L.number ≤ 999999
  fields : FdsOk L.fields
instance (c : Nat) : Decidable (c ∈ lets) := inferInstance
instance (l : List Nat) : Decidable (NmOk l) := by unfold NmOk; infer_instance
instance (l : List (List Nat)) : Decidable (FdsOk l) := by unfold FdsOk; infer_instance
instance (L : Lt) : Decidable L.Ok := decidable_of_iff (NmOk L.kind ∧ NmOk L.sender ∧ NmOk L.receiver ∧ L.number ≤ 999999 ∧ FdsOk L.fields) ⟨fun h => ⟨h.1, h.2.1, h.2.2.1, h.2.2.2.1, h.2.2.2.2⟩, fun h => ⟨h.1, h.2, h.3, h.4, h.5⟩⟩
theorem szs_cons (l : List Nat) (ls : List (List Nat)) : szs (l :: ls) = l.length + szs ls := by unfold szs; rw [List.map_cons, List.sum_cons]
theorem joinL_len (sep : List Nat) : ∀ ls : List (List Nat), (TL.joinL sep ls).length ≤ szs ls + ls.length * sep.length
  | [] => by simp [TL.joinL]
  | [p] => by simp [TL.joinL, szs]
  | p :: q :: r => by
    have := joinL_len sep (q :: r)
    rw [TL.joinL, List.length_append, List.length_append, szs_cons]
    rw [List.length_cons, Nat.add_mul, Nat.one_mul]
    omega
theorem joinL_asc {sep : List Nat} (hs : Asc sep) : ∀ ls : List (List Nat), (∀ l ∈ ls, Asc l) → Asc (TL.joinL sep ls)
  | [], _ => fun c hc => by cases hc
  | [p], h => h p (by simp)
  | p :: q :: r, h => fun c hc => by
    rw [TL.joinL] at hc
    rcases List.mem_append.mp hc with hc | hc
    · exact h p (by simp) c hc
    rcases List.mem_append.mp hc with hc | hc
    · exact hs c hc
    · exact joinL_asc hs (q :: r) (fun l hl => h l (by simp [hl])) c hc
def Wr (k s r dg : List Nat) (fs : List (List Nat)) : Prop := Asc k ∧ Asc s ∧ Asc r ∧ Asc dg ∧ (∀ f ∈ fs, Asc f) ∧ szs (parts k s r dg fs) + (fs.length + 4) ≤ 900
theorem body_asc {k s r dg : List Nat} {fs : List (List Nat)} (h : Wr k s r dg fs) : Asc (bodyOf k s r dg fs) ∧ (bodyOf k s r dg fs).length ≤ 901 := by
  obtain ⟨h1, h2, h3, h4, h5, h6⟩ := h
  have hj := joinL_len [124] (parts k s r dg fs)
  have hp : (parts k s r dg fs).length = fs.length + 4 := by simp [parts]
  refine ⟨fun c hc => ?_, ?_⟩
  · rcases List.mem_append.mp hc with hc | hc
    · refine joinL_asc (fun c hc => by rw [List.mem_singleton.mp hc]; decide) _ (fun l hl => ?_) c hc
      simp only [parts, List.mem_append, List.mem_cons, List.not_mem_nil, or_false] at hl
      rcases hl with (rfl | rfl | rfl | rfl) | hl
      · exact h1
      · exact h2
      · exact h3
      · exact h4
      · exact h5 l hl
    · rw [List.mem_singleton.mp hc]; decide
  · unfold bodyOf
    rw [List.length_append]
    simp only [List.length_singleton] at hj ⊢
    omega
theorem parts_map (k s r dg : List Nat) (fs : List (List Nat)) : [Mi.D.str (SX.S k), .str (SX.S s), .str (SX.S r), .str (SX.S dg)] ++ fs.map (fun f => Mi.D.str (SX.S f)) = (parts k s r dg fs).map fun f => Mi.D.str (SX.S f) := by simp [parts]
theorem lwritten_eq {k s r dg : List Nat} {fs : List (List Nat)} (h : Wr k s r dg fs) (S : List Mi.Ob) : m_L_written [.dat (.str (SX.S k)), .dat (.str (SX.S s)), .dat (.str (SX.S r)), .dat (.str (SX.S dg)), .dat (.lst (fs.map fun f => .str (SX.S f)))] [] S = .ok (.dat (.str (SX.S (bodyOf k s r dg fs ++ chk (bodyOf k s r dg fs))))) [] S := by
  obtain ⟨ba, bl⟩ := body_asc h
  have h6 := h.2.2.2.2.2
  refine Mi.pure_eq ?_
  unfold b_L_written
  walk_at "sq"
  walk_at "rp"
  rw [show ∀ x : List Mi.D, Mi.D.str (SX.S k) :: Mi.D.str (SX.S s) :: Mi.D.str (SX.S r) :: Mi.D.str (SX.S dg) :: x = [Mi.D.str (SX.S k), .str (SX.S s), .str (SX.S r), .str (SX.S dg)] ++ x from fun _ => rfl, parts_map, sBar]
  have hp : (parts k s r dg fs).length = fs.length + 4 := by simp [parts]
  rw [List.length_map]
  refine ⟨by decide, szl (by omega), _, join_eq _ _ (by simp only [List.length_singleton]; omega), ?_⟩
  walk_at "rp"
  rw [SX.S_cat, show TL.joinL [124] (parts k s r dg fs) ++ [124] = bodyOf k s r dg fs from rfl]
  have hj := joinL_len [124] (parts k s r dg fs)
  simp only [List.length_singleton] at hj
  rw [SX.S_len, SX.S_len]
  refine ⟨szl (by simp only [List.length_singleton]; omega), ?_⟩
  refine Mi.rp_callD (check_eq ba (by omega) S) rfl rfl ?_
  walk_at "rp"
  rw [SX.S_cat, SX.S_len, SX.S_len, chk_len]
  exact ⟨szl (by omega), rfl⟩
theorem asc_nm {l : List Nat} (h : NmOk l) : Asc l := fun c hc => by
  have a1 : ∀ c ∈ lets, c ≤ 126 := by decide +kernel
  have a2 : ∀ c ∈ digs, c ≤ 126 := by decide +kernel
  rcases h.2.2.2 c hc with h | h
  · exact a1 c h
  · exact a2 c h
theorem asc_fd {l : List Nat} (h : Fd l) : Asc l := fun c hc => (h c hc).2.1
theorem asc_num (n : Nat) : Asc (TL.numL n) := fun c hc => by have := TL.numL_digits n c hc; omega
def Fds (fs : List (List Nat)) : Prop := fs.length ≤ 8 ∧ ∀ f ∈ fs, Fd f ∧ f.length ≤ 40
theorem szs_le : ∀ fs : List (List Nat), (∀ f ∈ fs, f.length ≤ 40) → szs fs ≤ fs.length * 40
  | [], _ => by simp [szs]
  | f :: fs, h => by
    have := szs_le fs (fun g hg => h g (by simp [hg]))
    have := h f (by simp)
    rw [szs_cons, List.length_cons]
    omega
structure LtG (L : Lt) : Prop where
  ok : L.Ok
  asc : ∀ f ∈ L.fields, Fd f
theorem atI_mem {α : Type} {l : List α} {n : Int} (h0 : 0 ≤ n) (h1 : n < l.length) : ∃ c, atI l n = some c ∧ c ∈ l := by
  obtain ⟨c, e, e2⟩ := atI_at h0 h1
  exact ⟨c, e, List.mem_of_getElem? e2⟩

--== cut
def invLs (number many : Int) (b1 : Mi.BX) (S : List Mi.Ob) : Nat → List Mi.D → Mi.St → Prop := fun i acc st => ∃ (fs : List (List Nat)) (b : Mi.BX) (x : Option Mi.SV), st = ⟨[some (.io 0), some (.io 1), some (.dat (.int number)), some (.dat (.int many)), none, x], [b1, b], S⟩ ∧ Sr b ∧ acc = fs.map (fun f => Mi.D.str (SX.S f)) ∧ fs.length = i ∧ ∀ f ∈ fs, Fd f ∧ f.length ≤ 40
theorem letter_eq {b1 b2 : Mi.BX} (hb1 : Sr b1) (hb2 : Sr b2) (S : List Mi.Ob) : ∃ L c1 c2, m_L_letter [.io 0, .io 1] [b1, b2] S = .ok (.dat (Lt.d L)) [c1, c2] S ∧ LtG L ∧ Sr c1 ∧ Sr c2 := by
  have : ∃ d io', m_L_letter [.io 0, .io 1] [b1, b2] S = .ok (.dat d) io' S ∧ ∃ L c1 c2, d = Lt.d L ∧ io' = [c1, c2] ∧ LtG L ∧ Sr c1 ∧ Sr c2 := by
    refine Mi.gen_run ?_
    obtain ⟨q1, d1, e1, q10, q11, hd1⟩ := pick_eq hb1 (many := 12) (by decide) (by decide) S
    obtain ⟨q2, d2, e2, q20, q21, hd2⟩ := pick_eq hd1 (many := 1000000) (by decide) (by decide) S
    obtain ⟨q3, d3, e3, q30, q31, hd3⟩ := pick_eq hd2 (many := 4) (by decide) (by decide) S
    unfold b_L_letter
    refine Mi.rp_cut (fun st => ∃ number : Int, st = ⟨[some (.io 0), some (.io 1), some (.dat (.int number)), none, none, none], [d3, b2], S⟩ ∧ 0 ≤ number ∧ number ≤ 999999) ?_ ?_
    · walk_at "rp"
      refine Mi.rp_callM e1 rfl rfl Mi.nod1 rfl rfl ?_
      walk_at "rp"
      refine Mi.rp_callM e2 rfl rfl Mi.nod1 rfl rfl ?_
      walk_at "rp"
      refine ⟨by decide, ?_⟩
      refine Mi.rp_callM e3 rfl rfl Mi.nod1 rfl rfl ?_
      walk_at "rp"
      obtain ⟨x, ex, hx⟩ := atI_mem (l := [Mi.D.int 0, .int 999999, .int q1, .int q2]) q30 (by simp; omega)
      refine ⟨x, ex, ?_⟩
      simp only [List.mem_cons, List.not_mem_nil, or_false] at hx
      rcases hx with rfl | rfl | rfl | rfl
      · exact ⟨_, rfl, by omega, by omega⟩
      · exact ⟨_, rfl, by omega, by omega⟩
      · exact ⟨_, rfl, by omega, by omega⟩
      · exact ⟨_, rfl, by omega, by omega⟩
    intro st h
    obtain ⟨number, rfl, n0, n1⟩ := h
    obtain ⟨q1, f1, e1, q10, q11, hf1⟩ := pick_eq hd3 (many := 9) (by decide) (by decide) S
    obtain ⟨q2, f2, e2, q20, q21, hf2⟩ := pick_eq hf1 (many := 9) (by decide) (by decide) S
    obtain ⟨q3, f3, e3, q30, q31, hf3⟩ := pick_eq hf2 (many := 4) (by decide) (by decide) S
    refine Mi.rp_cut (fun st => ∃ many : Int, st = ⟨[some (.io 0), some (.io 1), some (.dat (.int number)), some (.dat (.int many)), none, none], [f3, b2], S⟩ ∧ 0 ≤ many ∧ many ≤ 8) ?_ ?_
    · walk_at "rp"
      refine Mi.rp_callM e1 rfl rfl Mi.nod1 rfl rfl ?_
      walk_at "rp"
      refine Mi.rp_callM e2 rfl rfl Mi.nod1 rfl rfl ?_
      walk_at "rp"
      refine ⟨by decide, ?_⟩
      refine Mi.rp_callM e3 rfl rfl Mi.nod1 rfl rfl ?_
      walk_at "rp"
      obtain ⟨x, ex, hx⟩ := atI_mem (l := [Mi.D.int q1, .int q2, .int 8, .int 0]) q30 (by simp; omega)
      refine ⟨x, ex, ?_⟩
      simp only [List.mem_cons, List.not_mem_nil, or_false] at hx
      rcases hx with rfl | rfl | rfl | rfl
      · exact ⟨_, rfl, by omega, by omega⟩
      · exact ⟨_, rfl, by omega, by omega⟩
      · exact ⟨_, rfl, by omega, by omega⟩
      · exact ⟨_, rfl, by omega, by omega⟩
    intro st h
    obtain ⟨many, rfl, k0, k1⟩ := h
    refine Mi.rp_cut (fun st => ∃ (fs : List (List Nat)) (b : Mi.BX) (x : Option Mi.SV), st = ⟨[some (.io 0), some (.io 1), some (.dat (.int number)), some (.dat (.int many)), some (.dat (.lst (fs.map fun f => Mi.D.str (SX.S f)))), x], [f3, b], S⟩ ∧ Sr b ∧ fs.length ≤ 8 ∧ ∀ f ∈ fs, Fd f ∧ f.length ≤ 40) ?_ ?_
    · walk_at "rp"
      refine Mi.rp_lc_rng many (invLs number many f3 S) (by omega) rfl ⟨[], b2, _, rfl, hb2, rfl, rfl, fun f hf => by cases hf⟩ ?_ ?_
      · intro i acc st hi h hl
        obtain ⟨fs, b, x, rfl, hb, rfl, hli, hf⟩ := h
        obtain ⟨l, b', e, h1, h2, h3⟩ := text_eq hb (most := 40) (by decide) (by decide) S
        walk_at "rp"
        refine Mi.rp_callM e rfl rfl Mi.nod1 rfl rfl ?_
        walk_at "rp"
        refine ⟨fs ++ [l], b', _, rfl, h3, by simp, by simp [hli], fun f hf' => ?_⟩
        rcases List.mem_append.mp hf' with hf' | hf'
        · exact hf f hf'
        · rw [List.mem_singleton.mp hf']
          exact ⟨h1, by omega⟩
      · intro acc st h hl
        obtain ⟨fs, b, x, rfl, hb, rfl, hli, hf⟩ := h
        walk_at "rp"
        exact ⟨fs, b, _, rfl, rfl, rfl, hb, by omega, hf⟩
    intro st h
    obtain ⟨fs, b, x, rfl, hb, hl, hf⟩ := h
    obtain ⟨l1, g1, e1, a1, hg1⟩ := name_eq hf3 S
    obtain ⟨l2, g2, e2, a2, hg2⟩ := name_eq hg1 S
    obtain ⟨l3, g3, e3, a3, hg3⟩ := name_eq hg2 S
    walk_at "rp"
    refine Mi.rp_callM e1 rfl rfl Mi.nod1 rfl rfl ?_
    walk_at "rp"
    refine Mi.rp_callM e2 rfl rfl Mi.nod1 rfl rfl ?_
    walk_at "rp"
    refine Mi.rp_callM e3 rfl rfl Mi.nod1 rfl rfl ?_
    walk_at "rp"
    obtain ⟨n, rfl⟩ := Int.eq_ofNat_of_zero_le n0
    exact ⟨by decide, ⟨l1, l2, l3, n, fs⟩, g3, b, rfl, rfl, rfl, ⟨⟨a1, a2, a3, by show n ≤ 999999; omega, hl, fun f hf' => ⟨(hf f hf').2, fun z => (((hf f hf').1) 124 z).2.2 rfl⟩⟩, fun f hf' => (hf f hf').1⟩, hg3, hb⟩
  obtain ⟨_, _, e, L, c1, c2, rfl, rfl, h⟩ := this
  exact ⟨L, c1, c2, e, h⟩

--== cut
/-! ### the project's: names, letters written -/
theorem in_S (c : Nat) (l : List Nat) : (!(Builtin.Str.occurrences (SX.S l) (SX.S [c]) 0 (SX.S l).length 1).isEmpty) = decide (c ∈ l) := SX.in_one l c
theorem in_S2 (c : Nat) (l : List Nat) : (Builtin.Str.occurrences (SX.S l) (SX.S [c]) 0 (SX.S l).length 1).isEmpty = !decide (c ∈ l) := by rw [← in_S, Bool.not_not]
theorem in_S3 (c : Nat) (l : List Nat) : (Builtin.Str.occurrences (SX.S l) (SX.S [c]) 0 l.length 1).isEmpty = !decide (c ∈ l) := by have := in_S2 c l; rw [SX.S_len] at this; exact this
def invIn (t : List Nat) (S : List Mi.Ob) : Nat → List Mi.D → Mi.St → Prop := fun i acc st => ∃ x : Option Mi.SV, st = ⟨[some (.dat (.str (SX.S t))), x], [], S⟩ ∧ acc = (t.take i).map fun c => Mi.D.bl (decide (c ∈ lets) || decide (c ∈ digs))
theorem bsD_map (f : Nat → Bool) : ∀ l : List Nat, Mi.bsD (l.map fun c => Mi.D.bl (f c)) = some (l.map f)
  | [] => rfl
  | c :: l => by rw [List.map_cons, List.map_cons]; unfold Mi.bsD; rw [bsD_map f l]; rfl
theorem is_name_eq {t : List Nat} (hl : t.length ≤ 1000) (S : List Mi.Ob) : m_is_name [.dat (.str (SX.S t))] [] S = .ok (.dat (.bl (decide (NmOk t)))) [] S := by
  refine Mi.pure_eq ?_
  unfold b_is_name
  walk_at "sq"
  walk_at "rp"
  rw [SX.S_len]
  refine ⟨szl (by omega), ?_⟩
  by_cases c1 : 1 ≤ t.length
  rotate_left
  · rw [if_neg (by omega), decide_eq_false (fun h : NmOk t => c1 h.1)]
  rw [if_pos (by omega)]
  by_cases c2 : t.length ≤ 12
  rotate_left
  · rw [if_pos (by omega), decide_eq_false (fun h : NmOk t => c2 h.2.1)]
  rw [if_neg (by omega)]
  cases t with
  | nil => exact absurd c1 (by simp)
  | cons c r =>
    refine ⟨_, fIxS_S (c := c) (by omega) Mi.atI_c0, ?_⟩
    walk_at "rp"
    rw [sLets, sDigs, in_S2]
    by_cases c3 : c ∈ lets
    rotate_left
    · rw [if_neg (by simpa using c3), decide_eq_false (fun h : NmOk (c :: r) => by obtain ⟨u, hu, hu2⟩ := h.2.2.1; cases hu; exact c3 hu2)]
    rw [if_pos (by simpa using c3)]
    refine Mi.rp_lc_str (c :: r) (invIn (c :: r) S) (by omega) rfl ⟨none, rfl, rfl⟩ ?_ ?_
    · intro i u acc st hi h hl
      obtain ⟨x, rfl, rfl⟩ := h
      walk_at "rp"
      simp only [in_S2]
      have fin : ∀ b : Bool, b = (decide (u ∈ lets) || decide (u ∈ digs)) → invIn (c :: r) S (i + 1) (((c :: r).take i).map (fun c => Mi.D.bl (decide (c ∈ lets) || decide (c ∈ digs))) ++ [.bl b]) ⟨[some (.dat (.str (SX.S (c :: r)))), some (.dat (.str (SX.S [u])))], [], S⟩ := by
        rintro b rfl
        refine ⟨_, rfl, ?_⟩
        have hlt := (List.getElem?_eq_some_iff.mp hi).1
        rw [List.take_succ_eq_append_getElem hlt, List.map_append, (List.getElem?_eq_some_iff.mp hi).2]
        rfl
      by_cases cu : u ∈ lets
      · rw [if_pos (by simp [cu])]
        exact fin _ (by simp [cu])
      · rw [if_neg (by simp [cu])]
        exact fin _ (by simp [cu])
    · intro acc st h hl
      obtain ⟨x, rfl, rfl⟩ := h
      walk_at "rp"
      rw [show List.take (r.length + 1) (c :: r) = c :: r from List.take_length (l := c :: r)]
      have e : Mi.fAll [.lst ((c :: r).map fun c => Mi.D.bl (decide (c ∈ lets) || decide (c ∈ digs)))] = some (.bl (decide (NmOk (c :: r)))) := by
        unfold Mi.fAll
        dsimp only
        rw [bsD_map]
        refine congrArg (fun b => some (Mi.D.bl b)) ?_
        rw [Bool.eq_iff_iff]
        simp only [List.all_eq_true, List.mem_map, id, decide_eq_true_eq]
        constructor
        · intro h
          refine ⟨c1, c2, ⟨c, rfl, c3⟩, fun u hu => ?_⟩
          have := h _ ⟨u, hu, rfl⟩
          simpa using this
        · rintro h _ ⟨u, hu, rfl⟩
          simpa using h.2.2.2 u hu
      exact ⟨_, e, rfl⟩
theorem check_name_eq {t : List Nat} (hl : t.length ≤ 1000) (S : List Mi.Ob) : m_check_name [.dat (.str (SX.S t))] [] S = Mi.rfE .badValue [] S (if NmOk t then some .non else none) := by
  refine Mi.pure_runE ?_
  unfold b_check_name
  walk_at "rp"
  refine Mi.rp_callD (is_name_eq hl S) rfl rfl ?_
  walk_at "rp"
  by_cases h : NmOk t
  · rw [if_neg (by simpa using h), if_pos h]
  · rw [if_pos (by simpa using h), if_neg h]
def fsB (fs : List (List Nat)) : Mi.Ob := .bx (.lst (fs.map fun f => Mi.D.str (SX.S f)))
def Lt.db (j : Nat) (L : Lt) : Mi.D := .tup [.str (SX.S L.kind), .str (SX.S L.sender), .str (SX.S L.receiver), .int (L.number : Int), .ob j]
theorem check_fields_eq {fs : List (List Nat)} (hl : fs.length ≤ 1000) (hf : ∀ f ∈ fs, f.length ≤ 1000) {S : List Mi.Ob} {j : Nat} (hj : S[j]? = some (fsB fs)) : m_check_fields [.dat (.ob j)] [] S = Mi.rfE .badValue [] S (if FdsOk fs then some .non else none) := by
  refine Mi.pure_runE ?_
  unfold b_check_fields
  unfold fsB at hj
  walk_at "sq"
  walk_at "rp"
  rw [Mi.peek_ob (st := ⟨_, _, S⟩) hj]
  walk_at "rp"
  rw [List.length_map]
  by_cases c : fs.length ≤ 8
  rotate_left
  · rw [if_pos (by omega), if_neg (fun h : FdsOk fs => c h.1)]
  rw [if_neg (by omega)]
  with_reducible refine Mi.rp_lst_pk (fun r st => ∃ (gs hs : List (List Nat)) (x : Option Mi.SV), r = hs.map (fun f => Mi.D.str (SX.S f)) ∧ gs ++ hs = fs ∧ (∀ f ∈ gs, f.length ≤ 40 ∧ 124 ∉ f) ∧ st = ⟨[some (.dat (.ob j)), x], [], S⟩) ?_ ?_ ?_
  · walk_at "rp"
    refine ⟨_, Mi.peek_ob (st := ⟨_, _, S⟩) hj, ⟨[], fs, none, rfl, rfl, (fun f hf => by cases hf), rfl⟩, fun r st' h => ?_⟩
    obtain ⟨gs, hs, x, _, _, _, rfl⟩ := h
    exact Mi.peek_ob (st := ⟨_, _, S⟩) hj
  · intro d r st h
    obtain ⟨gs, hs, x, hr, he, hg, rfl⟩ := h
    cases hs with
    | nil => cases hr
    | cons f hs =>
      rw [List.map_cons] at hr
      cases hr
      have hfl := hf f (by rw [← he]; simp)
      walk_at "rp"
      rw [SX.S_len, sBar]
      simp only [in_S3]
      refine ⟨szl (by omega), ?_⟩
      have bad : ¬(f.length ≤ 40 ∧ 124 ∉ f) → ¬FdsOk fs := fun h k => h (k.2 f (by rw [← he]; simp))
      by_cases c1 : f.length ≤ 40
      rotate_left
      · rw [if_pos (by omega), if_neg (bad fun z => c1 z.1)]
      rw [if_neg (by omega)]
      by_cases c2 : 124 ∈ f
      · rw [if_pos (by simpa using c2), if_neg (bad fun z => z.2 c2)]
      · rw [if_neg (by simpa using c2)]
        refine ⟨gs ++ [f], hs, _, rfl, by simpa using he, fun g hg' => ?_, rfl⟩
        rcases List.mem_append.mp hg' with hg' | hg'
        · exact hg g hg'
        · rw [List.mem_singleton.mp hg']; exact ⟨c1, c2⟩
  · intro st h
    obtain ⟨gs, hs, x, hr, he, hg, rfl⟩ := h
    cases hs with
    | cons f hs => cases hr
    | nil =>
      rw [List.append_nil] at he
      subst he
      walk_at "rp"
      rw [if_pos (show FdsOk gs from ⟨c, hg⟩)]
structure Sm (L : Lt) : Prop where
  kind : L.kind.length ≤ 1000
  sender : L.sender.length ≤ 1000
  receiver : L.receiver.length ≤ 1000
  fields : L.fields.length ≤ 1000
  field : ∀ f ∈ L.fields, f.length ≤ 1000
theorem check_letter_eq {L : Lt} (h : Sm L) {S : List Mi.Ob} {j : Nat} (hj : S[j]? = some (fsB L.fields)) : m_check_letter [.dat (Lt.db j L)] [] S = Mi.rfE .badValue [] S (if L.Ok then some .non else none) := by
  refine Mi.pure_runE ?_
  unfold b_check_letter Lt.db
  have hk := check_name_eq h.kind S
  have hs := check_name_eq h.sender S
  have hr := check_name_eq h.receiver S
  have hf := check_fields_eq h.fields h.field hj
  walk_at "sq"
  walk_at "rp"
  walk_at "sq"
  walk_at "rp"
  by_cases c1 : NmOk L.kind
  rotate_left
  · rw [if_neg c1] at hk
    refine Mi.rp_callE hk rfl rfl ?_
    rw [if_neg (fun k : L.Ok => c1 k.kind)]
    trivial
  rw [if_pos c1] at hk
  refine Mi.rp_callD hk rfl rfl ?_
  walk_at "rp"
  walk_at "sq"
  walk_at "rp"
  by_cases c2 : NmOk L.sender
  rotate_left
  · rw [if_neg c2] at hs
    refine Mi.rp_callE hs rfl rfl ?_
    rw [if_neg (fun k : L.Ok => c2 k.sender)]
    trivial
  rw [if_pos c2] at hs
  refine Mi.rp_callD hs rfl rfl ?_
  walk_at "rp"
  walk_at "sq"
  walk_at "rp"
  by_cases c3 : NmOk L.receiver
  rotate_left
  · rw [if_neg c3] at hr
    refine Mi.rp_callE hr rfl rfl ?_
    rw [if_neg (fun k : L.Ok => c3 k.receiver)]
    trivial
  rw [if_pos c3] at hr
  refine Mi.rp_callD hr rfl rfl ?_
  walk_at "rp"
  walk_at "sq"
  walk_at "rp"
  rw [if_pos (by omega)]
  by_cases c4 : L.number ≤ 999999
  rotate_left
  · rw [if_pos (by omega), if_neg (fun k : L.Ok => c4 k.number)]
  rw [if_neg (by omega)]
  by_cases c5 : FdsOk L.fields
  · rw [if_pos c5] at hf
    refine Mi.rp_callD hf rfl rfl ?_
    walk_at "rp"
    rw [if_pos (show L.Ok from ⟨c1, c2, c3, c4, c5⟩)]
  · rw [if_neg c5] at hf
    refine Mi.rp_callE hf rfl rfl ?_
    rw [if_neg (fun k : L.Ok => c5 k.fields)]
    trivial
theorem digits_of_eq {t : List Nat} (ht : Asc t) (hl : t.length ≤ 1000) (S : List Mi.Ob) : m_check_digits_of [.dat (.str (SX.S t))] [] S = .ok (.dat (.str (SX.S (chk t)))) [] S := by
  refine Mi.pure_eq ?_
  unfold b_check_digits_of
  walk_at "sq"
  walk_at "rp"
  refine Mi.rp_lc_enumS t 1 (fun i acc st => ∃ (x y : Option Mi.SV), st = ⟨[some (.dat (.str (SX.S t))), none, x, y], [], S⟩ ∧ ∃ ns : List Int, acc = ns.map Mi.D.int ∧ ns.sum = (wsum 1 (t.take i) : Nat)) (by omega) (by omega) rfl ⟨none, none, rfl, [], rfl, rfl⟩ ?_ ?_
  · intro i c acc st hi h hl
    obtain ⟨x, y, rfl, ns, rfl, hsum⟩ := h
    have hlt := (List.getElem?_eq_some_iff.mp hi).1
    have hc : c ≤ 126 := ht c (List.mem_of_getElem? hi)
    walk_at "rp"
    refine ⟨_, ord_S c, ?_⟩
    walk_at "rp"
    refine ⟨Kv.mulX (a := 64) (b := 64) (Kv.bits64 (by omega) (by omega)) (Kv.bits64 (by omega) (by omega)), _, _, rfl, rfl, ns ++ [(1 + (i : Int)) * (c : Int)], by simp, ?_⟩
    rw [List.take_succ_eq_append_getElem hlt, wsum_snoc, List.length_take, Nat.min_eq_left (by omega), (List.getElem?_eq_some_iff.mp hi).2, List.sum_append, hsum]
    simp
  · intro acc st h hl
    obtain ⟨x, y, rfl, ns, rfl, hsum⟩ := h
    walk_at "rp"
    have e1 : Mi.intsD (ns.map Mi.D.int) = some ns := by
      have k : ∀ l : List Int, Mi.intsD (l.map Mi.D.int) = some l := fun l => by
        induction l with
        | nil => rfl
        | cons a l ih => rw [List.map_cons]; unfold Mi.intsD; rw [ih]; rfl
      exact k ns
    rw [e1]
    refine ⟨.int ns.sum, rfl, ?_⟩
    rw [hsum, List.take_length]
    walk_at "rp"
    have hm : wsum 1 t % 9973 < 9973 := Nat.mod_lt _ (by decide)
    rw [show ((wsum 1 t : Nat) : Int) % 9973 = ((wsum 1 t % 9973 : Nat) : Int) from rfl, SX.num_S]
    refine ⟨lg _ (by omega), ?_⟩
    have ez : Mi.fZfill (.str (SX.S (TL.numL (wsum 1 t % 9973)))) (.int 4) = some (.str (SX.S (chk t))) := by
      unfold Mi.fZfill
      dsimp only
      rw [if_pos (show PadOk 4 = true by decide)]
      exact congrArg (fun z => some (Mi.D.str z)) (zfill_num (d := 3) (by omega))
    exact ⟨_, ez, rfl⟩
structure Wt (L : Lt) : Prop where
  sm : Sm L
  wr : Wr L.kind L.sender L.receiver (TL.numL L.number) L.fields
  num : L.number ≤ 1000000000000
def wrote (L : Lt) : Option Mi.D := if L.Ok then some (.str (SX.S L.text)) else none
theorem write_eq {L : Lt} (h : Wt L) {S : List Mi.Ob} {j : Nat} (hj : S[j]? = some (fsB L.fields)) : m_write_letter [.dat (Lt.db j L)] [] S = Mi.rfE .badValue [] S (wrote L) := by
  refine Mi.pure_runE ?_
  have hc := check_letter_eq h.sm hj
  unfold fsB at hj
  obtain ⟨ba, bl⟩ := body_asc h.wr
  have h6 := h.wr.2.2.2.2.2
  have hp : (parts L.kind L.sender L.receiver (TL.numL L.number) L.fields).length = L.fields.length + 4 := by simp [parts]
  unfold b_write_letter
  walk_at "sq"
  walk_at "rp"
  unfold wrote
  by_cases c : L.Ok
  rotate_left
  · rw [if_neg c] at hc
    refine Mi.rp_callE hc rfl rfl ?_
    rw [if_neg c]
    trivial
  rw [if_pos c] at hc
  refine Mi.rp_callD hc rfl rfl ?_
  rw [if_pos c]
  unfold Lt.db
  walk_at "rp"
  walk_at "sq"
  walk_at "rp"
  walk_at "sq"
  walk_at "rp"
  rw [SX.num_S]
  have lgn := lg L.number h.num
  have e1 : Mi.fCatL (.lst ([Mi.D.str (SX.S L.kind), .str (SX.S L.sender), .str (SX.S L.receiver), .str (SX.S (TL.numL L.number))])) (.lst (L.fields.map fun f => Mi.D.str (SX.S f))) = some ((parts L.kind L.sender L.receiver (TL.numL L.number) L.fields).map fun f => Mi.D.str (SX.S f)) := by
    rw [← parts_map]
    unfold Mi.fCatL
    dsimp only
    rw [if_pos (by rw [List.length_map]; exact szl (by simp; omega))]
  refine ⟨lgn, by decide, _, Mi.peek_ob (st := ⟨_, _, S⟩) hj, _, e1, _, by rw [sBar]; exact join_eq _ _ (by simp only [List.length_singleton]; omega), ?_⟩
  walk_at "rp"
  rw [sBar, SX.S_cat, show TL.joinL [124] (parts L.kind L.sender L.receiver (TL.numL L.number) L.fields) ++ [124] = L.body from rfl]

  have hj := joinL_len [124] (parts L.kind L.sender L.receiver (TL.numL L.number) L.fields)
  simp only [List.length_singleton] at hj
  rw [SX.S_len, SX.S_len]
  refine ⟨szl (by simp only [List.length_singleton]; omega), ?_⟩
  have bl2 : L.body.length ≤ 901 := bl
  refine Mi.rp_callD (digits_of_eq (t := L.body) ba (by omega) S) rfl rfl ?_
  walk_at "rp"
  rw [SX.S_cat, SX.S_len, SX.S_len, chk_len]
  exact ⟨szl (by omega), rfl⟩

--== cut
theorem is_written_eq {L : Lt} (h : Wt L) (t : List Nat) {S : List Mi.Ob} {j : Nat} (hj : S[j]? = some (fsB L.fields)) : m_is_written [.dat (Lt.db j L), .dat (.str (SX.S t))] [] S = .ok (.dat (.bl (decide (L.Ok ∧ L.text = t)))) [] S := by
  refine Mi.pure_eq ?_
  have hw := write_eq h hj
  unfold b_is_written
  walk_at "rp"
  unfold wrote at hw
  by_cases c : L.Ok
  · rw [if_pos c] at hw
    refine Mi.rp_callD hw rfl rfl ?_
    walk_at "rp"
    exact decide_eq_decide.mpr ⟨fun z => ⟨c, SX.S_inj z⟩, fun z => by rw [z.2]⟩
  · rw [if_neg c] at hw
    refine Mi.rp_callE hw rfl rfl ?_
    walk_at "rp"
    exact (decide_eq_false (fun z => c z.1)).symm
/-! ### letters read -/
abbrev spl (t : List Nat) : List (List Nat) := TL.spl [124] 0 [] t
def lettersOf (t : List Nat) : Option Lt := match spl t with
  | k :: s :: r :: dg :: rest => if rest.length ≤ 9 ∧ 1 ≤ rest.length ∧ dg.length ≤ 6 ∧ dg ≠ [] ∧ dg.all (fun c => decide (48 ≤ c) && decide (c ≤ 57)) = true then some ⟨k, s, r, NumText.digitsVal dg, rest.dropLast⟩ else none
  | _ => none
def readOf (t : List Nat) : Option Lt := match lettersOf t with
  | some L => if L.Ok ∧ L.text = t then some L else none
  | none => none
theorem spl_len : ∀ (l acc : List Nat) (x : List Nat), x ∈ TL.spl [124] 0 acc l → x.length ≤ acc.length + l.length
  | [], acc, x, h => by simp [TL.spl] at h; subst h; omega
  | c :: r, acc, x, h => by
    rw [TL.spl] at h
    split at h
    · rcases List.mem_cons.mp h with h | h
      · subst h; omega
      · have := spl_len r [] x h
        simp only [List.length_nil, List.length_cons] at this ⊢
        omega
    · have := spl_len r (acc ++ [c]) x h
      simp only [List.length_append, List.length_cons, List.length_nil] at this ⊢
      omega
theorem spl_cnt : ∀ (l acc : List Nat), (TL.spl [124] 0 acc l).length ≤ l.length + 1
  | [], acc => by simp [TL.spl]
  | c :: r, acc => by
    rw [TL.spl]
    split
    · have := spl_cnt r []
      simp only [List.length_cons] at this ⊢
      exact Nat.succ_le_succ this
    · have := spl_cnt r (acc ++ [c])
      simp only [List.length_cons]
      omega
theorem spl_mem : ∀ (l acc : List Nat) (x : List Nat), x ∈ TL.spl [124] 0 acc l → ∀ c ∈ x, c ∈ acc ∨ c ∈ l
  | [], acc, x, h => by simp [TL.spl] at h; subst h; exact fun c hc => .inl hc
  | c :: r, acc, x, h => by
    rw [TL.spl] at h
    split at h
    · rcases List.mem_cons.mp h with h | h
      · subst h; exact fun c hc => .inl hc
      · intro d hd
        rcases spl_mem r [] x h d hd with z | z
        · cases z
        · exact .inr (by simp [z])
    · intro d hd
      rcases spl_mem r (acc ++ [c]) x h d hd with z | z
      · rcases List.mem_append.mp z with z | z
        · exact .inl z
        · exact .inr (by rw [List.mem_singleton.mp z]; simp)
      · exact .inr (by simp [z])
theorem spl_szs : ∀ (l acc : List Nat), szs (TL.spl [124] 0 acc l) ≤ acc.length + l.length
  | [], acc => by simp [TL.spl, szs]
  | c :: r, acc => by
    rw [TL.spl]
    split
    · have := spl_szs r []
      rw [szs_cons]
      simp only [List.length_nil, List.length_cons] at this ⊢
      rw [show (0 + 1 - 1 : Nat) = 0 from rfl]
      omega
    · have := spl_szs r (acc ++ [c])
      simp only [List.length_append, List.length_cons, List.length_nil] at this ⊢
      omega
theorem szs_mem {ls : List (List Nat)} {x : List Nat} (h : x ∈ ls) : x.length ≤ szs ls := by
  induction ls with
  | nil => cases h
  | cons a ls ih =>
    rw [szs_cons]
    rcases List.mem_cons.mp h with h | h
    · subst h; omega
    · have := ih h; omega
theorem dig_dec : ∀ c : _root_.Fin 127, Unicode.isDigit c.val = (decide (48 ≤ c.val) && decide (c.val ≤ 57)) := by decide +kernel
theorem isdigit_asc {l : List Nat} (h : Asc l) : Txt.isdigit (SX.S l) = decide (l ≠ [] ∧ l.all (fun c => decide (48 ≤ c) && decide (c ≤ 57)) = true) := by
  unfold Txt.isdigit
  rw [SX.S_len]
  have e : (SX.S l).cps.all (fun c => Unicode.isDigit c) = l.all (fun c => decide (48 ≤ c) && decide (c ≤ 57)) := by
    simp only [SX.S, List.all_toArray]
    rw [Bool.eq_iff_iff, List.all_eq_true, List.all_eq_true]
    have k : ∀ c ∈ l, Unicode.isDigit c = (decide (48 ≤ c) && decide (c ≤ 57)) := fun c hc => dig_dec ⟨c, by have := h c hc; omega⟩
    exact ⟨fun z c hc => (k c hc) ▸ z c hc, fun z c hc => (k c hc).symm ▸ z c hc⟩
  have e2 : (SX.S l).cps.all Unicode.isDigit = l.all (fun c => decide (48 ≤ c) && decide (c ≤ 57)) := e
  rw [e2]
  cases l with
  | nil => rfl
  | cons c r => rw [Bool.eq_iff_iff]; simp
theorem dv_lt_go : ∀ (l : List Nat) (x : Nat), l.all (fun c => decide (48 ≤ c) && decide (c ≤ 57)) = true → l.foldl (fun acc c => acc * 10 + (c - 48)) x < (x + 1) * 10 ^ l.length
  | [], x, _ => by simp
  | c :: l, x, h => by
    simp only [List.all_cons, Bool.and_eq_true, decide_eq_true_eq] at h
    have := dv_lt_go l (x * 10 + (c - 48)) (by simpa using h.2)
    rw [List.foldl_cons, List.length_cons, Nat.pow_succ]
    refine Nat.lt_of_lt_of_le this ?_
    rw [Nat.mul_comm (10 ^ l.length) 10, ← Nat.mul_assoc]
    exact Nat.mul_le_mul_right _ (by omega)
theorem dv_lt6 {l : List Nat} (h : l.all (fun c => decide (48 ≤ c) && decide (c ≤ 57)) = true) (hl : l.length ≤ 6) : NumText.digitsVal l < 1000000 := by
  have := dv_lt_go l 0 h
  rw [Nat.zero_add, Nat.one_mul] at this
  exact Nat.lt_of_lt_of_le this (Nat.le_trans (Nat.pow_le_pow_right (by decide) hl) (by decide))
theorem szs_dropLast : ∀ ls : List (List Nat), szs ls.dropLast ≤ szs ls
  | [] => by simp
  | [a] => by simp [szs]
  | a :: b :: r => by
    have := szs_dropLast (b :: r)
    rw [List.dropLast_cons₂, szs_cons, szs_cons a]
    omega
theorem cut4 {a b c d : Mi.D} (rest : List Mi.D) : Mi.cutD (a :: b :: c :: d :: rest) none (some 4) = [a, b, c, d] := by
  unfold Mi.cutD
  rw [show HT.sIx (a :: b :: c :: d :: rest).length 0 none = 0 from rfl, show HT.sIx (a :: b :: c :: d :: rest).length (a :: b :: c :: d :: rest).length (some (4 : Int)) = 4 from by
    rw [show (4 : Int) = ((4 : Nat) : Int) from rfl, HT.sIx_nat]
    simp only [List.length_cons]
    omega]
  rfl
theorem cut4e {a b c d : Mi.D} {rest : List Mi.D} (h : 1 ≤ rest.length) : Mi.cutD (a :: b :: c :: d :: rest) (some 4) (some (-1)) = rest.dropLast := by
  unfold Mi.cutD
  rw [show HT.sIx (a :: b :: c :: d :: rest).length 0 (some (4 : Int)) = 4 from by
    rw [show (4 : Int) = ((4 : Nat) : Int) from rfl, HT.sIx_nat]
    simp only [List.length_cons]
    omega, show HT.sIx (a :: b :: c :: d :: rest).length (a :: b :: c :: d :: rest).length (some (-1 : Int)) = rest.length + 3 from by
    show (if (-1 : Int) < 0 then ((-1 : Int) + ((a :: b :: c :: d :: rest).length : Int)).toNat else min (-1 : Int).toNat (a :: b :: c :: d :: rest).length) = _
    rw [if_pos (by decide)]
    simp only [List.length_cons]
    omega]
  rw [show rest.length + 3 - 4 = rest.length - 1 by omega, List.dropLast_eq_take]
  rfl
def ReadR (S : List Mi.Ob) (t : List Nat) (X : Mi.RF) : Prop := match readOf t with
  | some L => X = .ok (.dat (Lt.db S.length L)) [] (S ++ [fsB L.fields])
  | none => ∃ S', X = .err .damaged [] S'
theorem read_eq {t : List Nat} (ht : Asc t) (hl : t.length ≤ 800) (S : List Mi.Ob) : ReadR S t (m_read_letter [.dat (.str (SX.S t))] [] S) := by
  have hno : ∀ S', readOf t = none → ReadR S t (.err .damaged [] S') := fun S' e => by
    unfold ReadR
    rw [e]
    exact ⟨S', rfl⟩
  have hok : ∀ L, readOf t = some L → ReadR S t (.ok (.dat (Lt.db S.length L)) [] (S ++ [fsB L.fields])) := fun L e => by
    unfold ReadR
    rw [e]
  refine Mi.run_v (P := ReadR S t) ?_
  generalize ReadR S t = Q at hno hok ⊢
  unfold b_read_letter
  have hsp : Txt.split (SX.S t) (Str.ofString "|") = (spl t).map SX.S := SX.split_S (by decide) (by decide)
  have hcnt : (spl t).length ≤ t.length + 1 := spl_cnt t []
  have hmem : ∀ x ∈ spl t, Asc x := fun x hx c hc => by
    rcases spl_mem t [] x hx c hc with z | z
    · cases z
    · exact ht c z
  have hszs : szs (spl t) ≤ 0 + t.length := spl_szs t []
  unfold readOf lettersOf at hno hok
  refine Mi.rp_cut (fun st => st = ⟨[some (.dat (.str (SX.S t))), some (.dat (.lst ((spl t).map fun x => Mi.D.str (SX.S x)))), none, none, none, none, none], [], S⟩) ?_ ?_
  · walk_at "go"
    rw [hsp, show ((spl t).map SX.S).map Mi.D.str = (spl t).map (fun x => Mi.D.str (SX.S x)) by rw [List.map_map]; rfl]
    exact ⟨rfl, by rw [SX.S_len]; exact szl (by omega), rfl⟩
  intro st g
  subst g
  generalize spl t = ps at *
  by_cases c1 : 5 ≤ ps.length
  rotate_left
  · have e : (match (match ps with
      | k :: s :: r :: dg :: rest => if rest.length ≤ 9 ∧ 1 ≤ rest.length ∧ dg.length ≤ 6 ∧ dg ≠ [] ∧ dg.all (fun c => decide (48 ≤ c) && decide (c ≤ 57)) = true then some (⟨k, s, r, NumText.digitsVal dg, rest.dropLast⟩ : Lt) else none
      | _ => none) with
      | some L => if L.Ok ∧ L.text = t then some L else none
      | none => none) = none := by
      rcases ps with _ | ⟨k, _ | ⟨s, _ | ⟨r, _ | ⟨dg, rest⟩⟩⟩⟩
      · rfl
      · rfl
      · rfl
      · rfl
      · simp only [List.length_cons] at c1
        dsimp only
        rw [if_neg (fun z => by have := z.2.1; omega)]
    have hno := hno S e
    walk_at "if"
    walk_at "go"
    rw [List.length_map, if_neg (by omega)]
    exact hno
  rcases ps with _ | ⟨k, _ | ⟨s, _ | ⟨r, _ | ⟨dg, rest⟩⟩⟩⟩
  · simp at c1
  · simp at c1
  · simp at c1
  · simp at c1
  simp only [List.length_cons] at c1 hcnt
  dsimp only at hno hok
  by_cases c2 : rest.length ≤ 9
  rotate_left
  · rw [if_neg (fun z => c2 z.1)] at hno
    have hno := hno S rfl
    walk_at "if"
    walk_at "go"
    rw [List.length_map]
    try simp only [List.length_cons]
    rw [if_pos (by omega), if_pos (by omega)]
    exact hno
  have hda : Asc dg := hmem dg (by simp)
  rw [szs_cons, szs_cons, szs_cons, szs_cons] at hszs
  have hdr := szs_dropLast rest
  have hw : dg.length ≤ 6 ∧ dg ≠ [] ∧ dg.all (fun c => decide (48 ≤ c) && decide (c ≤ 57)) = true → Wt ⟨k, s, r, NumText.digitsVal dg, rest.dropLast⟩ := by
    intro h6
    have hn := dv_lt6 h6.2.2 h6.1
    have hn6 : (TL.numL (NumText.digitsVal dg)).length ≤ 6 := TL.numL_len (by decide) (by omega)
    refine ⟨⟨by show k.length ≤ 1000; omega, by show s.length ≤ 1000; omega, by show r.length ≤ 1000; omega, ?_, fun f hf => ?_⟩, ⟨hmem k (by simp), hmem s (by simp), hmem r (by simp), asc_num _, fun f hf => hmem f ?_, ?_⟩, by show NumText.digitsVal dg ≤ _; omega⟩
    · show rest.dropLast.length ≤ 1000
      rw [List.length_dropLast]; omega
    · have h1 := szs_mem (List.dropLast_subset _ hf)
      omega
    · have := List.dropLast_subset _ hf
      simp [this]
    · show szs (parts k s r (TL.numL (NumText.digitsVal dg)) rest.dropLast) + (rest.dropLast.length + 4) ≤ 900
      unfold parts
      rw [List.length_dropLast, List.cons_append, List.cons_append, List.cons_append, List.cons_append, List.nil_append, szs_cons, szs_cons, szs_cons, szs_cons]
      omega
  refine Mi.rp_cut (fun st => st = ⟨[some (.dat (.str (SX.S t))), some (.dat (.lst ((k :: s :: r :: dg :: rest).map fun x => Mi.D.str (SX.S x)))), none, none, none, none, none], [], S⟩) ?_ ?_
  · walk_at "go"
    rw [List.length_map]
    try simp only [List.length_cons]
    rw [if_pos (by omega), if_neg (by omega)]
    trivial
  intro st g
  subst g
  refine Mi.rp_cut (fun st => st = ⟨[some (.dat (.str (SX.S t))), some (.dat (.lst ((k :: s :: r :: dg :: rest).map fun x => Mi.D.str (SX.S x)))), some (.dat (.str (SX.S k))), some (.dat (.str (SX.S s))), some (.dat (.str (SX.S r))), some (.dat (.str (SX.S dg))), none], [], S⟩) ?_ ?_
  · walk_at "go"
    try simp only [List.map_cons]
    rw [cut4]
    walk_at "go"
  intro st g
  subst g
  have hint := fun h6 : dg.length ≤ 6 ∧ dg ≠ [] ∧ dg.all (fun c => decide (48 ≤ c) && decide (c ≤ 57)) = true => SX.int_S h6.2.2 h6.2.1 (by omega)
  by_cases h6 : dg.length ≤ 6 ∧ dg ≠ [] ∧ dg.all (fun c => decide (48 ≤ c) && decide (c ≤ 57)) = true
  rotate_left
  · rw [if_neg (fun z => h6 z.2.2)] at hno
    have hno := hno S rfl
    walk_at "if"
    walk_at "go"
    rw [SX.S_len, isdigit_asc hda]
    refine ⟨szl (by omega), ?_⟩
    by_cases c3 : dg.length ≤ 6
    rotate_left
    · rw [if_pos (by omega)]
      exact hno
    rw [if_neg (by omega)]
    rw [if_pos (by simpa using fun z => h6 ⟨c3, z⟩)]
    exact hno
  have hw := hw h6
  have hint := hint h6
  have eint : Mi.fIntS [.str (SX.S dg)] = some (.int (NumText.digitsVal dg : Int)) := by
    unfold Mi.fIntS
    dsimp only
    rw [hint, SX.S_len]
    dsimp only
    rw [if_pos (by omega)]
  rw [if_pos ⟨c2, by omega, h6⟩] at hno hok
  dsimp only at hno hok
  refine Mi.rp_cut (fun st => st = ⟨[some (.dat (.str (SX.S t))), some (.dat (.lst ((k :: s :: r :: dg :: rest).map fun x => Mi.D.str (SX.S x)))), some (.dat (.str (SX.S k))), some (.dat (.str (SX.S s))), some (.dat (.str (SX.S r))), some (.dat (.str (SX.S dg))), none], [], S⟩) ?_ ?_
  · walk_at "go"
    rw [SX.S_len, isdigit_asc hda]
    refine ⟨szl (by omega), ?_⟩
    rw [if_neg (by omega), if_neg (by simpa using h6.2)]
    trivial
  intro st g
  subst g
  refine Mi.rp_cut (fun st => st = ⟨[some (.dat (.str (SX.S t))), some (.dat (.lst ((k :: s :: r :: dg :: rest).map fun x => Mi.D.str (SX.S x)))), some (.dat (.str (SX.S k))), some (.dat (.str (SX.S s))), some (.dat (.str (SX.S r))), some (.dat (.str (SX.S dg))), some (.dat (Lt.db S.length ⟨k, s, r, NumText.digitsVal dg, rest.dropLast⟩))], [], S ++ [fsB rest.dropLast]⟩) ?_ ?_
  · walk_at "go"
    refine ⟨_, eint, ?_⟩
    rw [Mi.rp_box]
    walk_at "go"
    try simp only [List.map_cons]
    rw [cut4e (by rw [List.length_map]; omega), ← List.map_dropLast]
    exact ⟨rfl, rfl⟩
  intro st g
  subst g
  have hj : (S ++ [fsB rest.dropLast])[S.length]? = some (fsB (Lt.fields ⟨k, s, r, NumText.digitsVal dg, rest.dropLast⟩)) := by
    rw [List.getElem?_append_right (Nat.le_refl _), Nat.sub_self]
    rfl
  have hwr := is_written_eq hw t hj
  generalize hL : (⟨k, s, r, NumText.digitsVal dg, rest.dropLast⟩ : Lt) = L at *
  have hLf : L.fields = rest.dropLast := by rw [← hL]
  rw [← hLf] at hwr ⊢
  by_cases c5 : L.Ok ∧ L.text = t
  · rw [if_pos c5] at hok
    have hok := hok L rfl
    rw [decide_eq_true c5] at hwr
    walk_at "if"
    refine Mi.rp_callIs hwr rfl rfl ?_
    rw [Mi.rpF_ok]
    walk_at "go"
    exact hok
  · rw [if_neg c5] at hno
    have hno := hno (S ++ [fsB L.fields]) rfl
    rw [decide_eq_false c5] at hwr
    walk_at "if"
    refine Mi.rp_callIs hwr rfl rfl ?_
    rw [Mi.rpF_ok]
    walk_at "go"
    exact hno

--== cut
/-! ### what is written is read back; one changed sign is found -/
theorem joinL_snoc (sep c : List Nat) : ∀ ps : List (List Nat), ps ≠ [] → TL.joinL sep (ps ++ [c]) = TL.joinL sep ps ++ sep ++ c
  | [], h => absurd rfl h
  | [p], _ => by simp [TL.joinL]
  | p :: q :: r, _ => by
    have := joinL_snoc sep c (q :: r) (by simp)
    rw [List.cons_append, List.cons_append, TL.joinL, ← List.cons_append, this, TL.joinL]
    simp
theorem nm_bar {l : List Nat} (h : NmOk l) : 124 ∉ l := fun z => by
  rcases h.2.2.2 124 z with k | k
  · exact absurd k (by decide +kernel)
  · exact absurd k (by decide +kernel)
theorem num_bar (n : Nat) : 124 ∉ TL.numL n := fun z => by have := TL.numL_digits n 124 z; omega
theorem chk_bar (b : List Nat) : 124 ∉ chk b := fun z => by have := fix_digits _ _ 124 z; omega
theorem all_num (n : Nat) : (TL.numL n).all (fun c => decide (48 ≤ c) && decide (c ≤ 57)) = true := by
  rw [List.all_eq_true]
  intro c hc
  have := TL.numL_digits n c hc
  simp only [Bool.and_eq_true, decide_eq_true_eq]
  exact this
theorem read_back {L : Lt} (h : L.Ok) : readOf L.text = some L := by
  have e : spl L.text = L.kind :: L.sender :: L.receiver :: TL.numL L.number :: (L.fields ++ [chk L.body]) := by
    have e1 : L.text = TL.joinL [124] (parts L.kind L.sender L.receiver (TL.numL L.number) L.fields ++ [chk L.body]) := (joinL_snoc [124] (chk L.body) _ (by simp [parts])).symm
    rw [e1]
    refine (SX.spl_join (by simp [parts]) fun p hp => ?_).trans (by simp [parts])
    simp only [parts, List.mem_append, List.mem_cons, List.not_mem_nil, or_false] at hp
    rcases hp with ((rfl | rfl | rfl | rfl) | hp) | rfl
    · exact nm_bar h.kind
    · exact nm_bar h.sender
    · exact nm_bar h.receiver
    · exact num_bar _
    · exact (h.fields.2 p hp).2
    · exact chk_bar _
  have e2 : lettersOf L.text = some L := by
    unfold lettersOf
    rw [e]
    dsimp only
    have h1 := h.number
    have h2 := h.fields.1
    rw [if_pos ⟨by simp; omega, by simp, TL.numL_len (by decide) (by omega), TL.numL_ne _, all_num _⟩, TL.numL_val, List.dropLast_concat]
  unfold readOf
  rw [e2]
  dsimp only
  rw [if_pos ⟨h, rfl⟩]
theorem fix4_inj {a b : Nat} (ha : a < 10000) (hb : b < 10000) (h : fix 4 a = fix 4 b) : a = b := by
  have h1 := val_app 4 [] a
  have h2 := val_app 4 [] b
  rw [List.nil_append] at h1 h2
  rw [h, h2] at h1
  have e : (10 : Nat) ^ 4 = 10000 := by decide
  rw [e, Nat.mod_eq_of_lt ha, Nat.mod_eq_of_lt hb] at h1
  omega
theorem wsum_set (c : Nat) : ∀ (l : List Nat) (k i : Nat) (h : i < l.length), wsum k (l.set i c) + (k + i) * l[i] = wsum k l + (k + i) * c
  | [], k, i, h => by simp at h
  | d :: l, k, 0, h => by
    simp only [List.set_cons_zero, wsum, List.getElem_cons_zero, Nat.add_zero]
    omega
  | d :: l, k, i + 1, h => by
    have := wsum_set c l (k + 1) i (by simpa using h)
    simp only [List.set_cons_succ, wsum, List.getElem_cons_succ]
    rw [show k + (i + 1) = k + 1 + i by omega]
    omega
theorem cop : ∀ d : _root_.Fin 127, d.val ≠ 0 → Nat.gcd 9973 d.val = 1 := by decide +kernel
theorem no_div {p d : Nat} (hp : 0 < p) (hp2 : p < 9973) (hd : 0 < d) (hd2 : d < 127) : ¬ 9973 ∣ p * d := fun h => by
  have g : Nat.Coprime 9973 d := cop ⟨d, hd2⟩ (by show d ≠ 0; omega)
  have := Nat.le_of_dvd hp (g.dvd_of_dvd_mul_right h)
  omega
theorem mod_neq {x y p a c : Nat} (hp : 0 < p) (hp2 : p < 9973) (ha : a < 127) (hc : c < 127) (hac : a ≠ c) (h : x + p * a = y + p * c) (hm : x % 9973 = y % 9973) : False := by
  rcases Nat.lt_or_gt_of_ne hac with hlt | hlt
  · refine no_div hp hp2 (show 0 < c - a by omega) (by omega) ?_
    have e : p * c = p * a + p * (c - a) := by rw [← Nat.mul_add]; congr 1; omega
    omega
  · refine no_div hp hp2 (show 0 < a - c by omega) (by omega) ?_
    have e : p * a = p * c + p * (a - c) := by rw [← Nat.mul_add]; congr 1; omega
    omega
theorem changed_none {L : Lt} (hl : L.text.length < 9000) (ht : Asc L.text) {i c : Nat} (hi : i < L.text.length) (hc : c < 127) (hne : L.text[i] ≠ c) : readOf (L.text.set i c) = none := by
  unfold readOf
  split
  rotate_left
  · rfl
  rename_i L' _
  by_cases h : L'.Ok ∧ L'.text = L.text.set i c
  rotate_left
  · rw [if_neg h]
  exfalso
  obtain ⟨_, h⟩ := h
  have hbl : L'.body.length = L.body.length := by
    have := congrArg List.length h
    rw [List.length_set] at this
    unfold Lt.text at this
    rw [List.length_append, List.length_append, chk_len, chk_len] at this
    omega
  by_cases hib : i < L.body.length
  · have e : L.text.set i c = L.body.set i c ++ chk L.body := by
      unfold Lt.text
      rw [List.set_append_left _ _ hib]
    rw [e] at h
    unfold Lt.text at h
    obtain ⟨e1, e2⟩ := List.append_inj h (by rw [List.length_set]; exact hbl)
    have e3 := fix4_inj (by have := Nat.mod_lt (wsum 1 L'.body) (show 9973 > 0 by decide); omega) (by have := Nat.mod_lt (wsum 1 L.body) (show 9973 > 0 by decide); omega) e2
    rw [e1] at e3
    have hw := wsum_set c L.body 1 i hib
    have hai : L.text[i] = L.body[i] := by
      simp only [Lt.text]
      exact List.getElem_append_left hib
    have ha := ht _ (List.getElem_mem hi)
    rw [hai] at hne ha
    have hbt : L.body.length ≤ L.text.length := by unfold Lt.text; rw [List.length_append]; omega
    exact mod_neq (p := 1 + i) (by omega) (by omega) (by omega) hc hne hw e3
  · have e : L.text.set i c = L.body ++ (chk L.body).set (i - L.body.length) c := by
      unfold Lt.text
      rw [List.set_append_right _ _ (by omega)]
    rw [e] at h
    unfold Lt.text at h
    obtain ⟨e1, e2⟩ := List.append_inj h hbl
    rw [e1] at e2
    have hj : i - L.body.length < (chk L.body).length := by
      have := hi
      unfold Lt.text at this
      rw [List.length_append] at this
      omega
    have hai : L.text[i] = (chk L.body)[i - L.body.length] := by
      simp only [Lt.text]
      exact List.getElem_append_right (by omega)
    apply hne
    rw [hai]
    have := congrArg (fun l => l[i - L.body.length]?) e2
    simp only [List.getElem?_eq_getElem hj, List.getElem?_set_self hj, Option.some.injEq] at this
    exact this

--== cut
/-! ### what is told of what was read -/
def Lt.p (L : Lt) : PyData := .tuple [.str (SX.S L.kind), .str (SX.S L.sender), .str (SX.S L.receiver), .int L.number, .list (L.fields.map fun f => .str (SX.S f))]
theorem pdL_strs : ∀ ls : List (List Nat), Mi.pdL (ls.map fun f => Mi.D.str (SX.S f)) = some (ls.map fun f => .str (SX.S f))
  | [] => rfl
  | f :: ls => by rw [List.map_cons, List.map_cons]; unfold Mi.pdL; rw [pdL_strs ls]; rfl
theorem strs_same {ls : List (List Nat)} (h : ∀ f ∈ ls, Asc f) (hl : ∀ f ∈ ls, f.length ≤ 1000) : Mi.fEqD (.lst (ls.map fun f => Mi.D.str (SX.S f))) (.lst (ls.map fun f => Mi.D.str (SX.S f))) = some (.bl true) := by
  refine Mi.eqD_same (a := .list (ls.map fun f => .str (SX.S f))) ?_ ?_ ?_
  · unfold Mi.D.pd
    rw [pdL_strs]
    rfl
  · simp only [PyData.canLay0]
    have k : ∀ ls : List (List Nat), (∀ f ∈ ls, Asc f) → PyData.canLayAll0 (ls.map fun f => .str (SX.S f)) = true := fun ls => by
      induction ls with
      | nil => exact fun _ => rfl
      | cons f ls ih =>
        intro h
        rw [List.map_cons]
        simp only [PyData.canLayAll0, PyData.canLay0, Bool.and_eq_true]
        refine ⟨?_, ih fun g hg => h g (by simp [hg])⟩
        unfold PyData.strOk
        simp only [SX.S, List.all_toArray, List.all_eq_true, decide_eq_true_eq]
        intro c hc
        have := h f (by simp) c hc
        omega
    exact k ls h
  · have k : ∀ ls : List (List Nat), PyData.depthAll (ls.map fun f => .str (SX.S f)) ≤ 2 := fun ls => by
      induction ls with
      | nil => simp [PyData.depthAll]
      | cons f ls ih =>
        rw [List.map_cons]
        simp only [PyData.depthAll, PyData.depth]
        omega
    have := k ls
    simp only [PyData.depth]
    omega
theorem strs_ne {ls : List (List Nat)} (h : ∀ f ∈ ls, Asc f) (hl : ∀ f ∈ ls, f.length ≤ 1000) : Mi.fNeD (.lst (ls.map fun f => Mi.D.str (SX.S f))) (.lst (ls.map fun f => Mi.D.str (SX.S f))) = some (.bl false) := by
  have e := strs_same h hl
  unfold Mi.fEqD at e
  unfold Mi.fNeD
  split at e
  · rename_i a b e1 e2
    split at e
    · rename_i c
      rw [e1] at e2
      cases e2
      try rw [e1]
      try dsimp only
      rw [if_pos c]
      cases e3 : PyData.eqv a a with
      | true => rfl
      | false => rw [e3] at e; cases e
    · cases e
  · cases e

--== cut
theorem is_letter_eq {L : Lt} (hf : ∀ f ∈ L.fields, Asc f) (hl : ∀ f ∈ L.fields, f.length ≤ 1000) {S : List Mi.Ob} {j : Nat} (hj : S[j]? = some (fsB L.fields)) : m_L_is_letter [.dat (Lt.db j L), .dat (Lt.d L)] [] S = .ok (.dat (.bl true)) [] S := by
  refine Mi.pure_eq ?_
  unfold b_L_is_letter Lt.db Lt.d
  unfold fsB at hj
  walk_at "sq"
  walk_at "rp"
  rw [if_neg (by decide)]
  refine Mi.rp_cut (fun st => ∃ x, st = ⟨[some (.dat (Lt.db j L)), some (.dat (Lt.d L)), x], [], S⟩) ?_ ?_
  · with_reducible refine Mi.rp_rng1 3 (fun i st => ∃ x, st = ⟨[some (.dat (Lt.db j L)), some (.dat (Lt.d L)), x], [], S⟩) (by omega) ?_ ?_ ?_
    · walk_at "rp"
      exact ⟨none, rfl, rfl, rfl⟩
    · intro i st hi h
      obtain ⟨x, rfl⟩ := h
      unfold Lt.db Lt.d
      rcases (by omega : i = 0 ∨ i = 1 ∨ i = 2) with rfl | rfl | rfl
      · rw [show ((0 : Nat) : Int) = 0 from rfl]
        walk_at "rp"
        exact ⟨_, rfl⟩
      · rw [show ((1 : Nat) : Int) = 1 from rfl]
        walk_at "rp"
        exact ⟨_, rfl⟩
      · rw [show ((2 : Nat) : Int) = 2 from rfl]
        walk_at "rp"
        exact ⟨_, rfl⟩
    · intro st h
      exact h
  intro st h
  obtain ⟨x, rfl⟩ := h
  unfold Lt.db Lt.d
  walk_at "sq"
  walk_at "rp"
  rw [Mi.peek_ob (st := ⟨_, _, S⟩) hj]
  walk_at "rp"
  exact ⟨_, strs_same hf hl, rfl⟩

--== cut
/-! ### texts that are no names -/
theorem cutS_to {a : List Nat} {i : Int} (h : 0 ≤ i) : cutS (SX.S a) none (some i) = SX.S (a.take i.toNat) := by rw [C8.cutS_slice, SX.slice_to h]
theorem cutS_from {a : List Nat} {i : Int} (h : 0 ≤ i) : cutS (SX.S a) (some i) none = SX.S (a.drop i.toNat) := by rw [C8.cutS_slice, SX.slice_from h]
theorem cutD_to {a : List Mi.D} {i : Nat} : Mi.cutD a none (some (i : Int)) = a.take i := by
  unfold Mi.cutD
  rw [HT.sIx_none, HT.sIx_nat, List.drop_zero, Nat.sub_zero]
  by_cases h : i ≤ a.length
  · rw [Nat.min_eq_left h]
  · rw [Nat.min_eq_right (by omega), List.take_of_length_le (Nat.le_refl _), List.take_of_length_le (by omega)]
theorem cutD_from {a : List Mi.D} {i : Nat} (h : i ≤ a.length) : Mi.cutD a (some (i : Int)) none = a.drop i := by
  unfold Mi.cutD
  rw [HT.sIx_none, HT.sIx_nat, Nat.min_eq_left h, List.take_of_length_le]
  rw [List.length_drop]
  exact Nat.le_refl _
def oddL : List Nat := (Str.ofString " !\"#$&'()*+,-./:;<=>?@ABCDEFGHIJKLMNOPQRSTUVWXYZ[\\]^_`{|}~").cps.toList
theorem sOdd : Str.ofString " !\"#$&'()*+,-./:;<=>?@ABCDEFGHIJKLMNOPQRSTUVWXYZ[\\]^_`{|}~" = SX.S oddL := rfl
theorem oddLl : oddL.length = 58 := by decide +kernel
theorem odd_not : ∀ c ∈ oddL, c ∉ lets ∧ c ∉ digs ∧ c ≤ 126 := by decide +kernel
theorem digsl : digs.length = 10 := by decide +kernel
theorem digs_not : ∀ c ∈ digs, c ∉ lets ∧ c ≤ 126 := by decide +kernel
def twelve : List Nat := (Str.ofString "abcdefghijkl").cps.toList
theorem sTw : Str.ofString "abcdefghijkl" = SX.S twelve := rfl
theorem tw_ok : twelve.length = 12 ∧ ∀ c ∈ twelve, c ≤ 126 := by decide +kernel
theorem asc_app {a b : List Nat} (h : Asc a) (k : Asc b) : Asc (a ++ b) := fun c hc => by
  rcases List.mem_append.mp hc with z | z
  · exact h c z
  · exact k c z
theorem asc_one {c : Nat} (h : c ≤ 126) : Asc [c] := fun x hx => by rw [List.mem_singleton.mp hx]; exact h
theorem asc_take {a : List Nat} (h : Asc a) (n : Nat) : Asc (a.take n) := fun c hc => h c (List.mem_of_mem_take hc)
theorem asc_drop {a : List Nat} (h : Asc a) (n : Nat) : Asc (a.drop n) := fun c hc => h c (List.mem_of_mem_drop hc)
theorem bad_name_eq {b : Mi.BX} (hb : Sr b) (S : List Mi.Ob) : ∃ l b', m_L_bad_name [.io 0] [b] S = .ok (.dat (.str (SX.S l))) [b'] S ∧ ¬NmOk l ∧ l.length ≤ 100 ∧ Asc l ∧ Sr b' := by
  have : ∃ d io', m_L_bad_name [.io 0] [b] S = .ok (.dat d) io' S ∧ ∃ l b', d = .str (SX.S l) ∧ io' = [b'] ∧ ¬NmOk l ∧ l.length ≤ 100 ∧ Asc l ∧ Sr b' := by
    refine Mi.gen_run ?_
    obtain ⟨l, b1, e1, hl, hb1⟩ := name_eq hb S
    obtain ⟨w, b2, e2, w0, w1, hb2⟩ := pick_eq hb1 (many := 6) (by decide) (by decide) S
    have la := asc_nm hl
    have l1 := hl.1
    have l12 := hl.2.1
    unfold b_L_bad_name
    walk_at "sq"
    walk_at "rp"
    refine Mi.rp_callM e1 rfl rfl Mi.nod1 rfl rfl ?_
    walk_at "rp"
    walk_at "sq"
    walk_at "rp"
    refine Mi.rp_callM e2 rfl rfl Mi.nod1 rfl rfl ?_
    walk_at "rp"
    walk_at "sq"
    walk_at "rp"
    split
    · exact ⟨[], b2, rfl, rfl, fun h => absurd h.1 (by simp), by simp, (fun c hc => by cases hc), hb2⟩
    walk_at "sq"
    walk_at "rp"
    split
    · rw [sTw, SX.S_cat, SX.S_len, SX.S_len]
      refine ⟨szl (by rw [tw_ok.1]; omega), l ++ twelve, b2, rfl, rfl, fun h => ?_, ?_, asc_app la tw_ok.2, hb2⟩
      · have := h.2.1
        rw [List.length_append, tw_ok.1] at this
        omega
      · rw [List.length_append, tw_ok.1]; omega
    walk_at "sq"
    walk_at "rp"
    split
    · obtain ⟨q, b3, e3, q0, q1, hb3⟩ := pick_eq hb2 (many := 10) (by decide) (by decide) S
      obtain ⟨c, c1, c2⟩ := atI_mem (l := digs) q0 (by rw [digsl]; omega)
      refine Mi.rp_callM e3 rfl rfl Mi.nod1 rfl rfl ?_
      walk_at "rp"
      rw [sDigs]
      refine ⟨_, fIxS_S (by decide +kernel) c1, ?_⟩
      walk_at "rp"
      rw [cutS_from (show (0 : Int) ≤ 1 by decide), SX.S_cat, SX.S_len, SX.S_len, SX.S_len]
      have ld : (l.drop (Int.toNat 1)).length ≤ 12 := by rw [List.length_drop]; omega
      refine ⟨szl (by omega), szl (by rw [List.length_singleton]; omega), _, b3, rfl, rfl, fun h => ?_, ?_, asc_app (asc_one (digs_not c c2).2) (asc_drop la _), hb3⟩
      · obtain ⟨u, hu, hu2⟩ := h.2.2.1
        cases hu
        exact (digs_not c c2).1 hu2
      · rw [List.length_append, List.length_singleton]; omega
    walk_at "sq"
    walk_at "rp"
    obtain ⟨q, b3, e3, q0, q1, hb3⟩ := pick_eq hb2 (many := (l.length : Int)) (by omega) (by omega) S
    obtain ⟨p, b4, e4, p0, p1, hb4⟩ := pick_eq hb3 (many := 58) (by decide) (by decide) S
    obtain ⟨c, c1, c2⟩ := atI_mem (l := oddL) p0 (by rw [oddLl]; omega)
    obtain ⟨j, rfl⟩ := Int.eq_ofNat_of_zero_le q0
    walk_at "sq"
    walk_at "rp"
    rw [SX.S_len, sOdd]
    refine ⟨szl (by omega), ?_⟩
    refine Mi.rp_callM e3 rfl rfl Mi.nod1 rfl rfl ?_
    walk_at "rp"
    rw [cutS_to (by omega), SX.S_len, SX.S_len, oddLl]
    refine ⟨szl (by omega), by decide, ?_⟩
    refine Mi.rp_callM e4 rfl rfl Mi.nod1 rfl rfl ?_
    walk_at "rp"
    refine ⟨_, fIxS_S (by rw [oddLl]; decide) c1, ?_⟩
    walk_at "rp"
    rw [cutS_from (by omega), SX.S_cat, SX.S_cat, SX.S_len, SX.S_len, SX.S_len, SX.S_len, SX.S_len]
    have hj : j < l.length := by omega
    have ld : (l.drop ((j : Int) + 1).toNat).length ≤ 12 := by rw [List.length_drop]; omega
    have lt : (l.take (j : Int).toNat).length ≤ 12 := by rw [List.length_take]; omega
    refine ⟨szl (by rw [List.length_singleton]; omega), szl (by omega), szl (by rw [List.length_append, List.length_singleton]; omega), _, b4, rfl, rfl, fun h => ?_, by rw [List.length_append, List.length_append, List.length_singleton]; omega, asc_app (asc_app (asc_take la _) (asc_one (odd_not c c2).2.2)) (asc_drop la _), hb4⟩
    rcases h.2.2.2 c (by simp) with z | z
    · exact (odd_not c c2).1 z
    · exact (odd_not c c2).2.1 z
  obtain ⟨_, _, e, l, b', rfl, rfl, h⟩ := this
  exact ⟨l, b', e, h⟩

--== cut
/-! ### texts that are no letters -/
def NoBar (l : List Nat) : Prop := 124 ∉ l
theorem rd_some {t : List Nat} {L : Lt} (h : readOf t = some L) : L.Ok ∧ L.text = t := by
  unfold readOf at h
  cases e : lettersOf t with
  | none => rw [e] at h; cases h
  | some M =>
    rw [e] at h
    dsimp only at h
    by_cases c : M.Ok ∧ M.text = t
    · rw [if_pos c] at h
      cases h
      exact c
    · rw [if_neg c] at h
      cases h
theorem spl_body {k s r dg x : List Nat} {fs : List (List Nat)} (hk : NoBar k) (hs : NoBar s) (hr : NoBar r) (hd : NoBar dg) (hf : ∀ f ∈ fs, NoBar f) (hx : NoBar x) : spl (bodyOf k s r dg fs ++ x) = k :: s :: r :: dg :: (fs ++ [x]) := by
  have e1 : bodyOf k s r dg fs ++ x = TL.joinL [124] (parts k s r dg fs ++ [x]) := (joinL_snoc [124] x _ (by simp [parts])).symm
  rw [e1]
  refine (SX.spl_join (by simp [parts]) fun p hp => ?_).trans (by simp [parts])
  simp only [parts, List.mem_append, List.mem_cons, List.not_mem_nil, or_false] at hp
  rcases hp with ((rfl | rfl | rfl | rfl) | hp) | rfl
  · exact hk
  · exact hs
  · exact hr
  · exact hd
  · exact hf p hp
  · exact hx
theorem spl_text {L : Lt} (h : L.Ok) : spl L.text = L.kind :: L.sender :: L.receiver :: TL.numL L.number :: (L.fields ++ [chk L.body]) :=
  spl_body (nm_bar h.kind) (nm_bar h.sender) (nm_bar h.receiver) (num_bar _) (fun f hf => (h.fields.2 f hf).2) (chk_bar _)
structure Pts (k s r dg : List Nat) (fs : List (List Nat)) : Prop where
  k : NoBar k
  s : NoBar s
  r : NoBar r
  d : NoBar dg
  f : ∀ f ∈ fs, NoBar f
section
variable {k s r dg x : List Nat} {fs : List (List Nat)}
theorem rd_parts (h : Pts k s r dg fs) (hx : NoBar x) {L : Lt} (e : readOf (bodyOf k s r dg fs ++ x) = some L) : L.Ok ∧ L.kind = k ∧ L.sender = s ∧ L.receiver = r ∧ TL.numL L.number = dg ∧ L.fields = fs ∧ chk (bodyOf k s r dg fs) = x := by
  obtain ⟨ok, et⟩ := rd_some e
  have e1 := spl_body h.k h.s h.r h.d h.f hx
  rw [← et, spl_text ok] at e1
  injection e1 with e1 e2
  injection e2 with e2 e3
  injection e3 with e3 e4
  injection e4 with e4 e5
  have e6 := List.append_inj' e5 rfl
  refine ⟨ok, e1, e2, e3, e4, e6.1, ?_⟩
  have e7 := (List.cons.inj e6.2).1
  rw [← e7]
  unfold Lt.body
  rw [e1, e2, e3, e4, e6.1]
theorem no_of {t : List Nat} (h : ∀ L, readOf t = some L → False) : readOf t = none := by
  cases e : readOf t with
  | none => rfl
  | some L => exact (h L e).elim
theorem no_name (h : Pts k s r dg fs) (hx : NoBar x) (hn : ¬(NmOk k ∧ NmOk s ∧ NmOk r)) : readOf (bodyOf k s r dg fs ++ x) = none := no_of fun L e => by
  obtain ⟨ok, e1, e2, e3, _⟩ := rd_parts h hx e
  have := ok.kind
  have := ok.sender
  have := ok.receiver
  subst e1 e2 e3
  exact hn ⟨ok.kind, ok.sender, ok.receiver⟩
theorem no_digits (h : Pts k s r dg fs) (hx : NoBar x) (hn : ∀ n, n ≤ 999999 → TL.numL n ≠ dg) : readOf (bodyOf k s r dg fs ++ x) = none := no_of fun L e => by
  obtain ⟨ok, _, _, _, e4, _⟩ := rd_parts h hx e
  exact hn _ ok.number e4
theorem no_fields (h : Pts k s r dg fs) (hx : NoBar x) (hn : ¬FdsOk fs) : readOf (bodyOf k s r dg fs ++ x) = none := no_of fun L e => by
  obtain ⟨ok, _, _, _, _, e5, _⟩ := rd_parts h hx e
  rw [← e5] at hn
  exact hn ok.fields
theorem no_check (h : Pts k s r dg fs) (hx : NoBar x) (hn : x ≠ chk (bodyOf k s r dg fs)) : readOf (bodyOf k s r dg fs ++ x) = none := no_of fun L e => by
  obtain ⟨_, _, _, _, _, _, e6⟩ := rd_parts h hx e
  exact hn e6.symm
end
/-- one more bar, one more field -/
theorem body_more (k s r dg : List Nat) (fs : List (List Nat)) (y x : List Nat) : bodyOf k s r dg fs ++ (y ++ [124] ++ x) = bodyOf k s r dg (fs ++ [y]) ++ x := by
  have e : TL.joinL [124] (parts k s r dg (fs ++ [y])) = TL.joinL [124] (parts k s r dg fs) ++ [124] ++ y := by
    have : parts k s r dg (fs ++ [y]) = parts k s r dg fs ++ [y] := by simp [parts]
    rw [this]
    exact joinL_snoc [124] y _ (by simp [parts])
  unfold bodyOf
  rw [e]
  simp
theorem no_few {ps : List (List Nat)} (h0 : ps ≠ []) (h3 : ps.length ≤ 3) (hb : ∀ p ∈ ps, NoBar p) {x : List Nat} (hx : NoBar x) : readOf (TL.joinL [124] ps ++ [124] ++ x) = none := by
  have e1 : TL.joinL [124] ps ++ [124] ++ x = TL.joinL [124] (ps ++ [x]) := (joinL_snoc [124] x _ h0).symm
  have e2 : spl (TL.joinL [124] ps ++ [124] ++ x) = ps ++ [x] := by
    rw [e1]
    refine SX.spl_join (by simp) fun p hp => ?_
    rcases List.mem_append.mp hp with q | q
    · exact hb p q
    · rw [List.mem_singleton.mp q]; exact hx
  unfold readOf lettersOf
  rw [e2]
  rcases ps with _ | ⟨a, _ | ⟨b, _ | ⟨c, _ | ⟨d, r⟩⟩⟩⟩
  · exact absurd rfl h0
  · rfl
  · rfl
  · dsimp only [List.cons_append, List.nil_append]
    rw [if_neg (fun z => by have := z.2.1; simp at this)]
  · simp at h3
structure Odd (t : List Nat) : Prop where
  no : readOf t = none
  asc : Asc t
  len : t.length ≤ 800
theorem chk_take_bar (b : List Nat) (i : Nat) : NoBar ((chk b).take i) := fun z => chk_bar b (List.mem_of_mem_take z)
theorem chk_drop_bar (b : List Nat) (i : Nat) : NoBar ((chk b).drop i) := fun z => chk_bar b (List.mem_of_mem_drop z)
theorem chk_digit (b : List Nat) : ∀ c ∈ chk b, 48 ≤ c ∧ c ≤ 57 := fun c hc => fix_digits _ _ c hc
theorem asc_chk (b : List Nat) : Asc (chk b) := fun c hc => by have := chk_digit b c hc; omega

--== cut
/-! ### odd digits -/
theorem neg_S (n : Nat) : Str.ofString (toString (0 - 1 - (n : Int))) = SX.S (45 :: TL.numL (n + 1)) := by
  have e : toString (0 - 1 - (n : Int)) = "-" ++ toString (((n + 1 : Nat) : Nat) : Int) := by
    have : (0 - 1 - (n : Int)) = Int.negSucc n := by omega
    rw [this]
    rfl
  have h := SX.num_S (n + 1)
  rw [e]
  have : Str.ofString ("-" ++ toString (((n + 1 : Nat) : Nat) : Int)) = Str.ofString "-" ++ Str.ofString (toString (((n + 1 : Nat) : Nat) : Int)) := by
    refine TL.ext_tl ?_
    rw [TL.tl_append, TL.tl_ofString, TL.tl_ofString, TL.tl_ofString, String.toList_append, List.map_append]
  rw [this, h]
  exact SX.S_cat [45] _
structure Dg (dg : List Nat) : Prop where
  asc : Asc dg
  bar : NoBar dg
  len : dg.length ≤ 30
  no : ∀ n, n ≤ 999999 → TL.numL n ≠ dg
theorem dg_odd {dg : List Nat} (h1 : Asc dg) (h2 : dg.length ≤ 30) (h3 : NoBar dg) {c : Nat} (hc : c ∈ dg) (hd : ¬(48 ≤ c ∧ c ≤ 57)) : Dg dg := ⟨h1, h3, h2, fun n _ e => by
  rw [← e] at hc
  exact hd (TL.numL_digits n c hc)⟩
theorem val_zeros (k : Nat) (l : List Nat) : NumText.digitsVal (List.replicate k 48 ++ l) = NumText.digitsVal l := by
  unfold NumText.digitsVal
  rw [List.foldl_append]
  have : (List.replicate k 48).foldl (fun acc c => acc * 10 + (c - 48)) 0 = 0 := by
    induction k with
    | zero => rfl
    | succ k ih => rw [List.replicate_succ, List.foldl_cons]; exact ih
  rw [this]
theorem num_len30 {n : Nat} (h : n < 10 ^ 17) : (TL.numL n).length ≤ 17 := TL.numL_len (by decide) h
theorem dg_zeros (k : Nat) (hk : k ≤ 4) {n : Nat} (hn : n ≤ 999999) : Dg (List.replicate (k + 1) 48 ++ TL.numL n) := by
  refine ⟨fun c hc => ?_, fun hc => ?_, ?_, fun m _ e => ?_⟩
  · rcases List.mem_append.mp hc with q | q
    · rw [List.eq_of_mem_replicate q]; decide
    · exact asc_num n c q
  · rcases List.mem_append.mp hc with q | q
    · have := List.eq_of_mem_replicate q
      omega
    · exact num_bar n q
  · have := num_len30 (n := n) (by omega)
    rw [List.length_append, List.length_replicate]
    omega
  · have v := congrArg NumText.digitsVal e
    rw [val_zeros, TL.numL_val, TL.numL_val] at v
    subst v
    have := congrArg List.length e
    rw [List.length_append, List.length_replicate] at this
    omega
theorem dg_big {q : Nat} (hq : q < 10 ^ 16) : Dg (TL.numL (1000000 + q)) := ⟨asc_num _, num_bar _, by have := num_len30 (n := 1000000 + q) (by omega); omega, fun m hm e => by
  have v := congrArg NumText.digitsVal e
  rw [TL.numL_val, TL.numL_val] at v
  omega⟩
theorem dg_neg {n : Nat} (hn : n ≤ 999999) : Dg (45 :: TL.numL (n + 1)) := dg_odd (fun c hc => by
  rcases List.mem_cons.mp hc with rfl | q
  · decide
  · exact asc_num _ c q) (by have := num_len30 (n := n + 1) (by omega); rw [List.length_cons]; omega) (fun hc => by
  rcases List.mem_cons.mp hc with q | q
  · omega
  · exact num_bar _ q) List.mem_cons_self (by decide)
def oddDs : List (List Nat) := ["", "-1", "+1", " 1", "1 ", "1.0", "x", "-0", "1_0"].map fun s => (Str.ofString s).cps.toList
theorem dg_nil : Dg [] := ⟨(fun c hc => by cases hc), (fun hc => by cases hc), by decide, fun n _ e => TL.numL_ne n e⟩
theorem dg_const : ∀ d ∈ oddDs, Dg d := by
  have h : ∀ d ∈ oddDs, d = [] ∨ ((∀ c ∈ d, c ≤ 126) ∧ d.length ≤ 30 ∧ 124 ∉ d ∧ ∃ c ∈ d, ¬(48 ≤ c ∧ c ≤ 57)) := by decide +kernel
  intro d hd
  rcases h d hd with rfl | ⟨h1, h2, h3, c, hc, hn⟩
  · exact dg_nil
  · exact dg_odd h1 h2 h3 hc hn
theorem odd_digits_eq {b : Mi.BX} (hb : Sr b) {n : Nat} (hn : n ≤ 999999) (S : List Mi.Ob) : ∃ dg b', m_L_odd_digits [.io 0, .dat (.int (n : Int))] [b] S = .ok (.dat (.str (SX.S dg))) [b'] S ∧ Dg dg ∧ Sr b' := by
  have : ∃ d io', m_L_odd_digits [.io 0, .dat (.int (n : Int))] [b] S = .ok (.dat d) io' S ∧ ∃ dg b', d = .str (SX.S dg) ∧ io' = [b'] ∧ Dg dg ∧ Sr b' := by
    refine Mi.gen_run ?_
    obtain ⟨w, b1, e1, w0, w1, hb1⟩ := pick_eq hb (many := 4) (by decide) (by decide) S
    obtain ⟨q, b2, e2, q0, q1, hb2⟩ := pick_eq hb1 (many := 4) (by decide) (by decide) S
    obtain ⟨p, b3, e3, p0, p1, hb3⟩ := pick_eq hb1 (many := 1000000000000000) (by decide) (by decide) S
    obtain ⟨u, b4, e4, u0, u1, hb4⟩ := pick_eq hb1 (many := 9) (by decide) (by decide) S
    have lgn := lg n (by omega)
    unfold b_L_odd_digits
    walk_at "sq"
    walk_at "rp"
    refine Mi.rp_callM e1 rfl rfl Mi.nod1 rfl rfl ?_
    walk_at "rp"
    walk_at "sq"
    walk_at "rp"
    split
    · refine Mi.rp_callM e2 rfl rfl Mi.nod1 rfl rfl ?_
      walk_at "rp"
      obtain ⟨k, rfl⟩ := Int.eq_ofNat_of_zero_le q0
      have hk := num_len30 (n := n) (by omega)
      rw [s0, rep_S 48 (by omega), SX.num_S, SX.S_cat, SX.S_len, SX.S_len, SX.S_len, show (1 + (k : Int)).toNat = k + 1 by omega, List.length_replicate]
      refine ⟨by omega, by omega, ?_, szl (by omega), lgn, szl (by omega), _, b2, rfl, rfl, dg_zeros k (by omega) hn, hb2⟩
      simp
      omega
    walk_at "sq"
    walk_at "rp"
    split
    · refine ⟨of_eq_true (Mi.cpow_1 (k := 15) (by decide)), ?_⟩
      refine Mi.rp_callM e3 rfl rfl Mi.nod1 rfl rfl ?_
      walk_at "rp"
      obtain ⟨k, rfl⟩ := Int.eq_ofNat_of_zero_le p0
      have lgk : ((1000000 + k : Nat) : Int).natAbs.log2 < 1920 := Nat.lt_of_lt_of_le (PySem.Flt.log2_lt_of (k := 64) (by decide) (by rw [Int.natAbs_natCast]; omega)) (by decide)
      rw [show 1000000 + (k : Int) = ((1000000 + k : Nat) : Int) by omega, SX.num_S]
      exact ⟨lgk, _, b3, rfl, rfl, dg_big (by omega), hb3⟩
    walk_at "sq"
    walk_at "rp"
    split
    · refine ⟨by decide, ?_⟩
      refine Mi.rp_callM e4 rfl rfl Mi.nod1 rfl rfl ?_
      walk_at "rp"
      obtain ⟨k, rfl⟩ := Int.eq_ofNat_of_zero_le u0
      obtain ⟨d, h1, h2⟩ := atI_at (l := oddDs) (n := (k : Int)) (by omega) (by show (k : Int) < 9; omega)
      have hm := List.mem_of_getElem? h2
      refine ⟨.str (SX.S d), ?_, d, b4, rfl, rfl, dg_const d hm, hb4⟩
      have e : [Mi.D.str (Str.ofString ""), Mi.D.str (Str.ofString "-1"), Mi.D.str (Str.ofString "+1"), Mi.D.str (Str.ofString " 1"), Mi.D.str (Str.ofString "1 "), Mi.D.str (Str.ofString "1.0"), Mi.D.str (Str.ofString "x"), Mi.D.str (Str.ofString "-0"), Mi.D.str (Str.ofString "1_0")] = oddDs.map fun d => Mi.D.str (SX.S d) := rfl
      rw [e]
      have h1 : atI oddDs ((k : Nat) : Int) = some d := h1
      exact atI_nat (by rw [List.getElem?_map, show oddDs[k]? = some d from h2]; rfl)
    have lgm := lg (n + 1) (by omega)
    refine ⟨by rw [show (-1 - (n : Int)).natAbs = ((n + 1 : Nat) : Int).natAbs by omega]; exact lgm, 45 :: TL.numL (n + 1), b1, ?_, rfl, dg_neg hn, hb1⟩
    rw [show -1 - (n : Int) = 0 - 1 - (n : Int) by omega, neg_S]
  obtain ⟨_, _, e, dg, b', rfl, rfl, h⟩ := this
  exact ⟨dg, b', e, h⟩

--== cut
/-! ### odd parts -/
/-- parts of a text, not too long -/
structure PtB (k s r dg : List Nat) (fs : List (List Nat)) : Prop where
  p : Pts k s r dg fs
  ak : Asc k
  as : Asc s
  ar : Asc r
  ad : Asc dg
  af : ∀ f ∈ fs, Asc f
  z : szs (parts k s r dg fs) ≤ 740
  n : fs.length ≤ 20
section
variable {k s r dg x : List Nat} {fs : List (List Nat)}
theorem PtB.wr (h : PtB k s r dg fs) : Wr k s r dg fs := ⟨h.ak, h.as, h.ar, h.ad, h.af, by have := h.z; have := h.n; omega⟩
theorem PtB.len (h : PtB k s r dg fs) : (bodyOf k s r dg fs).length ≤ 770 := by
  have hj := joinL_len [124] (parts k s r dg fs)
  have hp : (parts k s r dg fs).length = fs.length + 4 := by simp [parts]
  have := h.z
  have := h.n
  unfold bodyOf
  rw [List.length_append]
  simp only [List.length_singleton] at hj ⊢
  omega
theorem odd_of (h : PtB k s r dg fs) (hx : Asc x) (hl : x.length ≤ 20) (hn : readOf (bodyOf k s r dg fs ++ x) = none) : Odd (bodyOf k s r dg fs ++ x) := ⟨hn, asc_app (body_asc h.wr).1 hx, by have := h.len; rw [List.length_append]; omega⟩
end
/-- | put away -/
def noB (c : Nat) : Nat := if c = 124 then 95 else c
theorem spl_ne : ∀ l acc : List Nat, TL.spl [124] 0 acc l ≠ []
  | [], acc => by simp [TL.spl]
  | c :: r, acc => by
    rw [TL.spl]
    split
    · simp
    · exact spl_ne r _
theorem joinL_map1 (z : Nat) : ∀ l acc : List Nat, TL.joinL [z] (TL.spl [124] 0 acc l) = acc ++ l.map (fun c => if c = 124 then z else c)
  | [], acc => by simp [TL.spl, TL.joinL]
  | c :: r, acc => by
    rw [TL.spl]
    by_cases h : c = 124
    · subst h
      have ih := joinL_map1 z r []
      have hne := spl_ne r []
      rw [if_pos (by simp [TL.pre]), show [124].length - 1 = 0 from rfl]
      generalize TL.spl [124] 0 [] r = q at ih hne
      cases q with
      | nil => exact absurd rfl hne
      | cons a b =>
        show acc ++ ([z] ++ TL.joinL [z] (a :: b)) = _
        rw [ih]
        simp
    · rw [if_neg (by simp [TL.pre]; exact h), joinL_map1 z r (acc ++ [c])]
      simp [h]
theorem repl_S (l : List Nat) : Txt.replace (SX.S l) (Str.ofString "|") (Str.ofString "_") = SX.S (l.map noB) := by
  have h1 := PySem.StrLaws.replace_one (SX.S l) (SX.S [95]) 124
  have h2 : Txt.split (SX.S l) (Str.ofString "|") = (spl l).map SX.S := SX.split_S (by decide) (by decide)
  have e1 : (⟨#[124]⟩ : Str) = Str.ofString "|" := by decide +kernel
  have e2 : SX.S [95] = Str.ofString "_" := by decide +kernel
  rw [e1, h2] at h1
  rw [← e2, h1]
  have h3 := SX.join_S [95] (spl l)
  have h4 := joinL_map1 95 l []
  rw [h4, List.nil_append] at h3
  have h5 := TL.join_eq (SX.S [95]) ((spl l).map SX.S)
  rw [← h5, h3]
  rfl
theorem nob_ok {l : List Nat} (h : NmOk (l.map noB)) : NmOk l := by
  have hn : ∀ c ∈ l, c ≠ 124 := fun c hc e => by
    subst e
    have := h.2.2.2 95 (List.mem_map.mpr ⟨124, hc, rfl⟩)
    exact absurd this (by decide +kernel)
  have e : l.map noB = l := by
    refine (List.map_congr_left fun c hc => ?_).trans (List.map_id l)
    unfold noB
    rw [if_neg (hn c hc)]
    rfl
  rw [e] at h
  exact h
theorem nob_bar (l : List Nat) : NoBar (l.map noB) := fun hc => by
  obtain ⟨c, _, e⟩ := List.mem_map.mp hc
  unfold noB at e
  split at e <;> omega
theorem nob_asc {l : List Nat} (h : Asc l) : Asc (l.map noB) := fun d hd => by
  obtain ⟨c, hc, rfl⟩ := List.mem_map.mp hd
  unfold noB
  split
  · decide
  · exact h c hc

--== cut
theorem cutD_fromG {a : List Mi.D} {i : Nat} : Mi.cutD a (some (i : Int)) none = a.drop i := by
  unfold Mi.cutD
  rw [HT.sIx_none, HT.sIx_nat]
  by_cases h : i ≤ a.length
  · rw [Nat.min_eq_left h, List.take_of_length_le (by rw [List.length_drop]; exact Nat.le_refl _)]
  · rw [Nat.min_eq_right (by omega), Nat.sub_self, List.take_zero, List.drop_of_length_le (by omega)]
def opSt (L : Lt) (ns : List (List Nat)) (fs : List (List Nat)) (dg : List Nat) (x5 x6 x7 x8 : Option Mi.SV) (b : Mi.BX) (S : List Mi.Ob) : Mi.St := ⟨[some (.io 0), some (.dat (Lt.d L)), some (.own (.lst (ns.map fun n => Mi.D.str (SX.S n)))), some (.dat (.lst (fs.map fun f => Mi.D.str (SX.S f)))), some (.dat (.str (SX.S dg))), x5, x6, x7, x8], [b], S⟩
/-- what the parts are, and why they make no letter -/
structure Op (k s r dg : List Nat) (fs : List (List Nat)) : Prop where
  p : PtB k s r dg fs
  bad : ¬(NmOk k ∧ NmOk s ∧ NmOk r) ∨ (∀ n, n ≤ 999999 → TL.numL n ≠ dg) ∨ ¬FdsOk fs
theorem op_odd {k s r dg : List Nat} {fs : List (List Nat)} (h : Op k s r dg fs) : Odd (bodyOf k s r dg fs ++ chk (bodyOf k s r dg fs)) := by
  refine odd_of h.p (asc_chk _) (by rw [chk_len]; omega) ?_
  rcases h.bad with q | q | q
  · exact no_name h.p.p (chk_bar _) q
  · exact no_digits h.p.p (chk_bar _) q
  · exact no_fields h.p.p (chk_bar _) q
theorem fd_bar {l : List Nat} (h : Fd l) : NoBar l := fun z => (h 124 z).2.2 rfl
theorem nm_len {l : List Nat} (h : NmOk l) : l.length ≤ 12 := h.2.1
theorem szs_app (a b : List (List Nat)) : szs (a ++ b) = szs a + szs b := by
  induction a with
  | nil => simp [szs]
  | cons x r ih => rw [List.cons_append, szs_cons, szs_cons, ih]; omega
theorem szs_le' {m : Nat} : ∀ fs : List (List Nat), (∀ f ∈ fs, f.length ≤ m) → szs fs ≤ fs.length * m
  | [], _ => by simp [szs]
  | f :: r, h => by
    have h1 := szs_le' r fun x hx => h x (List.mem_cons_of_mem _ hx)
    have h2 := h f List.mem_cons_self
    rw [szs_cons, List.length_cons, Nat.add_mul]
    omega
/-- the parts of a good letter, one of them another -/
theorem ptb_of {k s r dg : List Nat} {fs : List (List Nat)} (hk : NoBar k ∧ Asc k ∧ k.length ≤ 100) (hs : NoBar s ∧ Asc s ∧ s.length ≤ 100) (hr : NoBar r ∧ Asc r ∧ r.length ≤ 100) (hd : NoBar dg ∧ Asc dg ∧ dg.length ≤ 30) (hf : ∀ f ∈ fs, NoBar f ∧ Asc f) (hz : szs fs ≤ 400) (hn : fs.length ≤ 20) : PtB k s r dg fs := by
  refine ⟨⟨hk.1, hs.1, hr.1, hd.1, fun f h => (hf f h).1⟩, hk.2.1, hs.2.1, hr.2.1, hd.2.1, fun f h => (hf f h).2, ?_, hn⟩
  unfold parts
  rw [List.cons_append, List.cons_append, List.cons_append, List.cons_append, List.nil_append, szs_cons, szs_cons, szs_cons, szs_cons]
  omega
def tailL : List Nat := (Str.ofString "abcdefghijklmnopqrstuvwxyz0123456789 .,-!").cps.toList
theorem sTail : Str.ofString "abcdefghijklmnopqrstuvwxyz0123456789 .,-!" = SX.S tailL := rfl
theorem tailL_ok : tailL.length = 41 ∧ 124 ∉ tailL ∧ ∀ c ∈ tailL, c ≤ 126 := by decide +kernel
theorem odd_parts_eq {b : Mi.BX} (hb : Sr b) {L : Lt} (hL : LtG L) (S : List Mi.Ob) : ∃ t b', m_L_odd_parts [.io 0, .dat (Lt.d L)] [b] S = .ok (.dat (.str (SX.S t))) [b'] S ∧ Odd t ∧ Sr b' := by
  have : ∃ d io', m_L_odd_parts [.io 0, .dat (Lt.d L)] [b] S = .ok (.dat d) io' S ∧ ∃ t b', d = .str (SX.S t) ∧ io' = [b'] ∧ Odd t ∧ Sr b' := by
    refine Mi.gen_run ?_
    obtain ⟨w, b1, e1, w0, w1, hb1⟩ := pick_eq hb (many := 5) (by decide) (by decide) S
    have hn := hL.ok.number
    have lgn := lg L.number (by omega)
    unfold b_L_odd_parts
    refine Mi.rp_cut (fun st => st = ⟨[some (.io 0), some (.dat (Lt.d L)), some (.own (.lst ([L.kind, L.sender, L.receiver].map fun n => Mi.D.str (SX.S n)))), none, none, none, none, none, none], [b], S⟩) ?_ ?_
    · unfold Lt.d
      walk_at "rp"
      decide
    intro st g
    subst g
    refine Mi.rp_cut (fun st => st = ⟨[some (.io 0), some (.dat (Lt.d L)), some (.own (.lst ([L.kind, L.sender, L.receiver].map fun n => Mi.D.str (SX.S n)))), some (.dat (.lst (L.fields.map fun f => Mi.D.str (SX.S f)))), none, none, none, none, none], [b], S⟩) ?_ ?_
    · unfold Lt.d
      walk_at "rp"
      exact ⟨_, rfl, rfl⟩
    intro st g
    subst g
    refine Mi.rp_cut (fun st => st = opSt L [L.kind, L.sender, L.receiver] L.fields (TL.numL L.number) none none none none b S) ?_ ?_
    · unfold Lt.d
      walk_at "rp"
      rw [SX.num_S]
      exact ⟨lgn, rfl⟩
    intro st g
    subst g
    refine Mi.rp_cut (fun st => st = opSt L [L.kind, L.sender, L.receiver] L.fields (TL.numL L.number) (some (.dat (.int w))) none none none b1 S) ?_ ?_
    · unfold opSt
      walk_at "rp"
      refine Mi.rp_callM e1 rfl rfl Mi.nod1 rfl rfl ?_
      walk_at "rp"
    intro st g
    subst g
    have gk : NoBar L.kind ∧ Asc L.kind ∧ L.kind.length ≤ 100 := ⟨nm_bar hL.ok.kind, asc_nm hL.ok.kind, by have := nm_len hL.ok.kind; omega⟩
    have gs : NoBar L.sender ∧ Asc L.sender ∧ L.sender.length ≤ 100 := ⟨nm_bar hL.ok.sender, asc_nm hL.ok.sender, by have := nm_len hL.ok.sender; omega⟩
    have gr : NoBar L.receiver ∧ Asc L.receiver ∧ L.receiver.length ≤ 100 := ⟨nm_bar hL.ok.receiver, asc_nm hL.ok.receiver, by have := nm_len hL.ok.receiver; omega⟩
    have gd : NoBar (TL.numL L.number) ∧ Asc (TL.numL L.number) ∧ (TL.numL L.number).length ≤ 30 := ⟨num_bar _, asc_num _, by have := num_len30 (n := L.number) (by omega); omega⟩
    have gf : ∀ f ∈ L.fields, NoBar f ∧ Asc f := fun f hf => ⟨fd_bar (hL.asc f hf), asc_fd (hL.asc f hf)⟩
    have gn := hL.ok.fields.1
    have gz : szs L.fields ≤ 320 := by
      have := szs_le' (m := 40) L.fields fun f hf => (hL.ok.fields.2 f hf).1
      omega
    obtain rfl | rfl | rfl | rfl | rfl : w = 0 ∨ w = 1 ∨ w = 2 ∨ w = 3 ∨ w = 4 := by omega
    · -- a bad name
      obtain ⟨l, b2, e2, hl, hl2, hl3, hb2⟩ := bad_name_eq hb1 S
      obtain ⟨q, b3, e3, q0, q1, hb3⟩ := pick_eq hb2 (many := 3) (by decide) (by decide) S
      have hbad : ¬NmOk (l.map noB) := fun z => hl (nob_ok z)
      have gl : NoBar (l.map noB) ∧ Asc (l.map noB) ∧ (l.map noB).length ≤ 100 := ⟨nob_bar l, nob_asc hl3, by rw [List.length_map]; exact hl2⟩
      refine Mi.rp_cut (fun st => ∃ k s r, st = opSt L [k, s, r] L.fields (TL.numL L.number) (some (.dat (.int 0))) none none none b3 S ∧ Op k s r (TL.numL L.number) L.fields) ?_ ?_
      · unfold opSt
        walk_at "rp"
        refine Mi.rp_callM e2 rfl rfl Mi.nod1 rfl rfl ?_
        walk_at "rp"
        refine ⟨.str (SX.S (l.map noB)), ?_, ?_⟩
        · unfold Mi.fReplace2
          dsimp only
          rw [if_pos (by rw [SX.S_len, show (Str.ofString "_").length = 1 by decide +kernel]; omega), repl_S]
        refine Mi.rp_callM e3 rfl rfl Mi.nod1 rfl rfl ?_
        walk_at "rp"
        obtain rfl | rfl | rfl : q = 0 ∨ q = 1 ∨ q = 2 := by omega
        · exact ⟨0, rfl, l.map noB, L.sender, L.receiver, rfl, ⟨ptb_of gl gs gr gd gf (by omega) (by omega), .inl fun z => hbad z.1⟩⟩
        · exact ⟨1, rfl, L.kind, l.map noB, L.receiver, rfl, ⟨ptb_of gk gl gr gd gf (by omega) (by omega), .inl fun z => hbad z.2.1⟩⟩
        · exact ⟨2, rfl, L.kind, L.sender, l.map noB, rfl, ⟨ptb_of gk gs gl gd gf (by omega) (by omega), .inl fun z => hbad z.2.2⟩⟩
      intro st g
      obtain ⟨k, s, r, rfl, hO⟩ := g
      refine Mi.rp_cut (fun st => st = opSt L [k, s, r] L.fields (TL.numL L.number) (some (.dat (.int 0))) none none none b3 S) ?_ ?_
      · unfold opSt
        walk_at "rp"
        first | trivial | (rw [if_neg (by decide)]; trivial) | rfl
      intro st g
      subst g
      refine Mi.rp_cut (fun st => st = opSt L [k, s, r] L.fields (TL.numL L.number) (some (.dat (.int 0))) none none none b3 S) ?_ ?_
      · unfold opSt
        walk_at "rp"
        first | trivial | (rw [if_neg (by decide)]; trivial) | rfl
      intro st g
      subst g
      refine Mi.rp_cut (fun st => st = opSt L [k, s, r] L.fields (TL.numL L.number) (some (.dat (.int 0))) none none none b3 S) ?_ ?_
      · unfold opSt
        walk_at "rp"
        first | trivial | (rw [if_neg (by decide)]; trivial) | rfl
      intro st g
      subst g
      refine Mi.rp_cut (fun st => st = opSt L [k, s, r] L.fields (TL.numL L.number) (some (.dat (.int 0))) none none none b3 S) ?_ ?_
      · unfold opSt
        walk_at "rp"
        first | trivial | (rw [if_neg (by decide)]; trivial) | rfl
      intro st g
      subst g
      unfold opSt
      walk_at "rp"
      refine Mi.rp_callD (lwritten_eq hO.p.wr S) rfl rfl ?_
      walk_at "rp"
      exact ⟨_, b3, rfl, rfl, op_odd hO, hb3⟩
    · -- odd digits
      obtain ⟨dg, b2, e2, hd, hb2⟩ := odd_digits_eq hb1 hn S
      have hO : Op L.kind L.sender L.receiver dg L.fields := ⟨ptb_of gk gs gr ⟨hd.bar, hd.asc, hd.len⟩ gf (by omega) (by omega), .inr (.inl hd.no)⟩
      refine Mi.rp_cut (fun st => st = opSt L [L.kind, L.sender, L.receiver] L.fields (TL.numL L.number) (some (.dat (.int 1))) none none none b1 S) ?_ ?_
      · unfold opSt
        walk_at "rp"
        first | trivial | (rw [if_neg (by decide)]; trivial) | rfl
      intro st g
      subst g
      refine Mi.rp_cut (fun st => st = opSt L [L.kind, L.sender, L.receiver] L.fields dg (some (.dat (.int 1))) none none none b2 S) ?_ ?_
      · unfold opSt Lt.d
        walk_at "rp"
        refine Mi.rp_callM e2 rfl rfl Mi.nod1 rfl rfl ?_
        walk_at "rp"
      intro st g
      subst g
      refine Mi.rp_cut (fun st => st = opSt L [L.kind, L.sender, L.receiver] L.fields dg (some (.dat (.int 1))) none none none b2 S) ?_ ?_
      · unfold opSt
        walk_at "rp"
        first | trivial | (rw [if_neg (by decide)]; trivial) | rfl
      intro st g
      subst g
      refine Mi.rp_cut (fun st => st = opSt L [L.kind, L.sender, L.receiver] L.fields dg (some (.dat (.int 1))) none none none b2 S) ?_ ?_
      · unfold opSt
        walk_at "rp"
        first | trivial | (rw [if_neg (by decide)]; trivial) | rfl
      intro st g
      subst g
      refine Mi.rp_cut (fun st => st = opSt L [L.kind, L.sender, L.receiver] L.fields dg (some (.dat (.int 1))) none none none b2 S) ?_ ?_
      · unfold opSt
        walk_at "rp"
        first | trivial | (rw [if_neg (by decide)]; trivial) | rfl
      intro st g
      subst g
      unfold opSt
      walk_at "rp"
      refine Mi.rp_callD (lwritten_eq hO.p.wr S) rfl rfl ?_
      walk_at "rp"
      exact ⟨_, b2, rfl, rfl, op_odd hO, hb2⟩
    · -- too many fields
      obtain ⟨t, b2, e2, ht, ht2, hb2⟩ := text_eq hb1 (most := 9) (by decide) (by decide) S
      obtain ⟨q, b3, e3, q0, q1, hb3⟩ := pick_eq hb2 (many := 3) (by decide) (by decide) S
      obtain ⟨p, rfl⟩ := Int.eq_ofNat_of_zero_le q0
      have hx : ∃ xs, xs = L.fields ++ [[], [120], t, [], [56], [47], [], [97, 32, 98], [35]] := ⟨_, rfl⟩
      obtain ⟨xs, hx⟩ := hx
      have hxl : xs.length = L.fields.length + 9 := by rw [hx, List.length_append]; rfl
      have hxf : ∀ f ∈ xs, NoBar f ∧ Asc f := fun f hf => by
        rw [hx] at hf
        rcases List.mem_append.mp hf with z | z
        · exact gf f z
        · simp only [List.mem_cons, List.not_mem_nil, or_false] at z
          have hc : ∀ f ∈ ([[], [120], [56], [47], [97, 32, 98], [35]] : List (List Nat)), 124 ∉ f ∧ ∀ c ∈ f, c ≤ 126 := by decide
          rcases z with rfl | rfl | rfl | rfl | rfl | rfl | rfl | rfl | rfl
          · exact hc _ (by decide)
          · exact hc _ (by decide)
          · exact ⟨fd_bar ht, asc_fd ht⟩
          · exact hc _ (by decide)
          · exact hc _ (by decide)
          · exact hc _ (by decide)
          · exact hc _ (by decide)
          · exact hc _ (by decide)
          · exact hc _ (by decide)
      have hxz : szs xs ≤ 340 := by
        have h1 : szs [[], [120], t, [], [56], [47], [], [97, 32, 98], [35]] = t.length + 7 := by
          simp [szs]
          omega
        rw [hx, szs_app, h1]
        omega
      have htz : ∀ n, szs (xs.take n) ≤ szs xs := fun n => by
        have := szs_app (xs.take n) (xs.drop n)
        rw [List.take_append_drop] at this
        omega
      have hO : Op L.kind L.sender L.receiver (TL.numL L.number) (xs.take (9 + p)) := ⟨ptb_of gk gs gr gd (fun f hf => hxf f (List.mem_of_mem_take hf)) (by have := htz (9 + p); omega) (by rw [List.length_take]; omega), .inr (.inr fun z => by
        have := z.1
        rw [List.length_take] at this
        omega)⟩
      refine Mi.rp_cut (fun st => st = opSt L [L.kind, L.sender, L.receiver] L.fields (TL.numL L.number) (some (.dat (.int 2))) none none none b1 S) ?_ ?_
      · unfold opSt
        walk_at "rp"
        first | trivial | (rw [if_neg (by decide)]; trivial) | rfl
      intro st g
      subst g
      refine Mi.rp_cut (fun st => st = opSt L [L.kind, L.sender, L.receiver] L.fields (TL.numL L.number) (some (.dat (.int 2))) none none none b1 S) ?_ ?_
      · unfold opSt
        walk_at "rp"
        first | trivial | (rw [if_neg (by decide)]; trivial) | rfl
      intro st g
      subst g
      refine Mi.rp_cut (fun st => st = opSt L [L.kind, L.sender, L.receiver] (xs.take (9 + p)) (TL.numL L.number) (some (.dat (.int 2))) none none none b3 S) ?_ ?_
      · unfold opSt
        walk_at "rp"
        refine Mi.rp_callM e2 rfl rfl Mi.nod1 rfl rfl ?_
        walk_at "rp"
        refine ⟨by decide, szl (by rw [List.length_map]; omega), ?_⟩
        refine Mi.rp_callM e3 rfl rfl Mi.nod1 rfl rfl ?_
        walk_at "rp"
        rw [show (9 : Int) + (p : Int) = ((9 + p : Nat) : Int) by omega, cutD_to, hx, List.map_take, List.map_append]
        rfl
      intro st g
      subst g
      refine Mi.rp_cut (fun st => st = opSt L [L.kind, L.sender, L.receiver] (xs.take (9 + p)) (TL.numL L.number) (some (.dat (.int 2))) none none none b3 S) ?_ ?_
      · unfold opSt
        walk_at "rp"
        first | trivial | (rw [if_neg (by decide)]; trivial) | rfl
      intro st g
      subst g
      refine Mi.rp_cut (fun st => st = opSt L [L.kind, L.sender, L.receiver] (xs.take (9 + p)) (TL.numL L.number) (some (.dat (.int 2))) none none none b3 S) ?_ ?_
      · unfold opSt
        walk_at "rp"
        first | trivial | (rw [if_neg (by decide)]; trivial) | rfl
      intro st g
      subst g
      unfold opSt
      walk_at "rp"
      refine Mi.rp_callD (lwritten_eq hO.p.wr S) rfl rfl ?_
      walk_at "rp"
      exact ⟨_, b3, rfl, rfl, op_odd hO, hb3⟩
    · -- a long field
      obtain ⟨t, b2, e2, ht, ht2, hb2⟩ := text_eq hb1 (most := 40) (by decide) (by decide) S
      obtain ⟨q, b3, e3, q0, q1, hb3⟩ := pick_eq hb2 (many := 8) (by decide) (by decide) S
      obtain ⟨p, rfl⟩ := Int.eq_ofNat_of_zero_le q0
      have hO : Op L.kind L.sender L.receiver (TL.numL L.number) ((L.fields.take 7).take p ++ [t ++ tailL] ++ (L.fields.take 7).drop p) := by
        have htl : (t ++ tailL).length = t.length + 41 := by rw [List.length_append, tailL_ok.1]
        refine ⟨ptb_of gk gs gr gd (fun f hf => ?_) ?_ ?_, .inr (.inr fun z => ?_)⟩
        · rcases List.mem_append.mp hf with z | z
          · rcases List.mem_append.mp z with z | z
            · exact gf f (List.mem_of_mem_take (List.mem_of_mem_take z))
            · rw [List.mem_singleton.mp z]
              exact ⟨fun c => by
                rcases List.mem_append.mp c with c | c
                · exact fd_bar ht c
                · exact tailL_ok.2.1 c, asc_app (asc_fd ht) tailL_ok.2.2⟩
          · exact gf f (List.mem_of_mem_take (List.mem_of_mem_drop z))
        · rw [szs_app, szs_app]
          have h1 := szs_app ((L.fields.take 7).take p) ((L.fields.take 7).drop p)
          rw [List.take_append_drop] at h1
          have h2 := szs_le' (m := 40) (L.fields.take 7) fun f hf => (hL.ok.fields.2 f (List.mem_of_mem_take hf)).1
          have h3 : (L.fields.take 7).length ≤ 7 := by rw [List.length_take]; omega
          have h4 : szs [t ++ tailL] = (t ++ tailL).length := by rw [szs_cons]; simp [szs]
          omega
        · rw [List.length_append, List.length_append, List.length_take, List.length_drop, List.length_take, List.length_singleton]
          omega
        · have := (z.2 (t ++ tailL) (by simp)).1
          omega
      refine Mi.rp_cut (fun st => st = opSt L [L.kind, L.sender, L.receiver] L.fields (TL.numL L.number) (some (.dat (.int 3))) none none none b1 S) ?_ ?_
      · unfold opSt
        walk_at "rp"
        first | trivial | (rw [if_neg (by decide)]; trivial) | rfl
      intro st g
      subst g
      refine Mi.rp_cut (fun st => st = opSt L [L.kind, L.sender, L.receiver] L.fields (TL.numL L.number) (some (.dat (.int 3))) none none none b1 S) ?_ ?_
      · unfold opSt
        walk_at "rp"
        first | trivial | (rw [if_neg (by decide)]; trivial) | rfl
      intro st g
      subst g
      refine Mi.rp_cut (fun st => st = opSt L [L.kind, L.sender, L.receiver] L.fields (TL.numL L.number) (some (.dat (.int 3))) none none none b1 S) ?_ ?_
      · unfold opSt
        walk_at "rp"
        first | trivial | (rw [if_neg (by decide)]; trivial) | rfl
      intro st g
      subst g
      refine Mi.rp_cut (fun st => ∃ x6 x7, st = opSt L [L.kind, L.sender, L.receiver] ((L.fields.take 7).take p ++ [t ++ tailL] ++ (L.fields.take 7).drop p) (TL.numL L.number) (some (.dat (.int 3))) x6 x7 none b3 S) ?_ ?_
      · unfold opSt
        walk_at "rp"
        walk_at "sq"
        walk_at "rp"
        refine Mi.rp_callM e2 rfl rfl Mi.nod1 rfl rfl ?_
        walk_at "rp"
        rw [sTail, SX.S_cat, SX.S_len, SX.S_len, tailL_ok.1]
        refine ⟨szl (by omega), ?_⟩
        walk_at "sq"
        walk_at "rp"
        refine Mi.rp_callM e3 rfl rfl Mi.nod1 rfl rfl ?_
        walk_at "rp"
        have h7 : Mi.cutD (L.fields.map fun n => Mi.D.str (SX.S n)) none (some 7) = (L.fields.take 7).map fun n => Mi.D.str (SX.S n) := by
          rw [show (7 : Int) = ((7 : Nat) : Int) from rfl, cutD_to, List.map_take]
        rw [h7, cutD_to, cutD_fromG, ← List.map_take, ← List.map_drop]
        have hz1 : ((L.fields.take 7).take p).length ≤ 8 := by rw [List.length_take, List.length_take]; omega
        have hz2 : ((L.fields.take 7).drop p).length ≤ 8 := by rw [List.length_drop, List.length_take]; omega
        refine ⟨by decide, szl (by rw [List.length_map]; omega), szl (by rw [List.length_append, List.length_map, List.length_map, List.length_singleton]; omega), _, _, ?_, rfl, rfl⟩
        simp only [List.map_append, List.map_cons, List.map_nil]
      intro st g
      obtain ⟨x6, x7, rfl⟩ := g
      refine Mi.rp_cut (fun st => st = opSt L [L.kind, L.sender, L.receiver] ((L.fields.take 7).take p ++ [t ++ tailL] ++ (L.fields.take 7).drop p) (TL.numL L.number) (some (.dat (.int 3))) x6 x7 none b3 S) ?_ ?_
      · unfold opSt
        walk_at "rp"
        first | trivial | (rw [if_neg (by decide)]; trivial) | rfl
      intro st g
      subst g
      unfold opSt
      walk_at "rp"
      refine Mi.rp_callD (lwritten_eq hO.p.wr S) rfl rfl ?_
      walk_at "rp"
      exact ⟨_, b3, rfl, rfl, op_odd hO, hb3⟩
    · -- too few parts
      obtain ⟨q, b2, e2, q0, q1, hb2⟩ := pick_eq hb1 (many := 3) (by decide) (by decide) S
      obtain ⟨p, rfl⟩ := Int.eq_ofNat_of_zero_le q0
      obtain ⟨ps, hps⟩ : ∃ ps, ps = [L.kind, L.sender, L.receiver].take (1 + p) := ⟨_, rfl⟩
      have hm : ∀ f ∈ ps, NoBar f ∧ Asc f ∧ f.length ≤ 100 := fun f hf => by
        rw [hps] at hf
        have := List.mem_of_mem_take hf
        simp only [List.mem_cons, List.not_mem_nil, or_false] at this
        rcases this with rfl | rfl | rfl
        · exact gk
        · exact gs
        · exact gr
      have hpl : ps.length = 1 + p := by rw [hps, List.length_take]; simp; omega
      have hz := szs_le' (m := 100) ps fun f hf => (hm f hf).2.2
      have hj := joinL_len [124] ps
      have hja := joinL_asc (sep := [124]) (fun c hc => by rw [List.mem_singleton.mp hc]; decide) ps fun f hf => (hm f hf).2.1
      obtain ⟨body, hbd⟩ : ∃ body, body = TL.joinL [124] ps ++ [124] := ⟨_, rfl⟩
      have hbl : body.length ≤ 310 := by
        rw [hbd, List.length_append]
        simp only [List.length_singleton] at hj ⊢
        omega
      have hba : Asc body := by rw [hbd]; exact asc_app hja (asc_one (by decide))
      have hodd : Odd (body ++ chk body) := ⟨by rw [hbd]; exact no_few (fun z => by rw [z] at hpl; simp at hpl; omega) (by omega) (fun f hf => (hm f hf).1) (chk_bar _), asc_app hba (asc_chk _), by rw [List.length_append, chk_len]; omega⟩
      have ec := check_eq (t := body) hba (by omega) S
      refine Mi.rp_cut (fun st => st = opSt L [L.kind, L.sender, L.receiver] L.fields (TL.numL L.number) (some (.dat (.int 4))) none none none b1 S) ?_ ?_
      · unfold opSt
        walk_at "rp"
        first | trivial | (rw [if_neg (by decide)]; trivial) | rfl
      intro st g
      subst g
      refine Mi.rp_cut (fun st => st = opSt L [L.kind, L.sender, L.receiver] L.fields (TL.numL L.number) (some (.dat (.int 4))) none none none b1 S) ?_ ?_
      · unfold opSt
        walk_at "rp"
        first | trivial | (rw [if_neg (by decide)]; trivial) | rfl
      intro st g
      subst g
      refine Mi.rp_cut (fun st => st = opSt L [L.kind, L.sender, L.receiver] L.fields (TL.numL L.number) (some (.dat (.int 4))) none none none b1 S) ?_ ?_
      · unfold opSt
        walk_at "rp"
        first | trivial | (rw [if_neg (by decide)]; trivial) | rfl
      intro st g
      subst g
      refine Mi.rp_cut (fun st => st = opSt L [L.kind, L.sender, L.receiver] L.fields (TL.numL L.number) (some (.dat (.int 4))) none none none b1 S) ?_ ?_
      · unfold opSt
        walk_at "rp"
        first | trivial | (rw [if_neg (by decide)]; trivial) | rfl
      intro st g
      subst g
      unfold opSt
      walk_at "sq"
      walk_at "rp"
      walk_at "sq"
      walk_at "rp"
      refine Mi.rp_callM e2 rfl rfl Mi.nod1 rfl rfl ?_
      walk_at "rp"
      have h7 : Mi.cutD [Mi.D.str (SX.S L.kind), Mi.D.str (SX.S L.sender), Mi.D.str (SX.S L.receiver)] none (some (1 + (p : Int))) = ps.map fun n => Mi.D.str (SX.S n) := by
        rw [show (1 : Int) + (p : Int) = ((1 + p : Nat) : Int) by omega, cutD_to, hps, List.map_take]
        rfl
      rw [h7, sBar]
      refine ⟨_, join_eq _ _ (by simp only [List.length_singleton]; omega), ?_⟩
      walk_at "rp"
      rw [SX.S_cat, ← hbd, SX.S_len, SX.S_len]
      have hj2 : (TL.joinL [124] ps).length ≤ 310 := by
        rw [hbd, List.length_append] at hbl
        omega
      refine ⟨szl (by rw [List.length_singleton]; omega), ?_⟩
      refine Mi.rp_callD ec rfl rfl ?_
      walk_at "rp"
      rw [SX.S_cat, SX.S_len, SX.S_len, chk_len]
      exact ⟨szl (by omega), _, b2, rfl, rfl, hodd, hb2⟩
  obtain ⟨_, _, e, t, b', rfl, rfl, h⟩ := this
  exact ⟨t, b', e, h⟩

--== cut
/-! ### odd texts -/
theorem sIx_n4 {n d : Nat} (h : 4 ≤ n) : HT.sIx n d (some (-4 : Int)) = n - 4 := by
  show (if (-4 : Int) < 0 then ((-4 : Int) + (n : Int)).toNat else min (-4 : Int).toNat n) = _
  rw [if_pos (by decide)]
  omega
theorem cutS_end4 {a : List Nat} (h : 4 ≤ a.length) : cutS (SX.S a) (some (-4)) none = SX.S (a.drop (a.length - 4)) := by
  unfold cutS
  rw [SX.S_len, sIx_n4 h, HT.sIx_none]
  show (⟨((a.drop (a.length - 4)).take _).toArray⟩ : Str) = ⟨(a.drop (a.length - 4)).toArray⟩
  rw [List.take_of_length_le (by rw [List.length_drop]; exact Nat.le_refl _)]
theorem cutS_but4 {a : List Nat} (h : 4 ≤ a.length) : cutS (SX.S a) none (some (-4)) = SX.S (a.take (a.length - 4)) := by
  unfold cutS
  rw [SX.S_len, sIx_n4 h, HT.sIx_none]
  show (⟨((a.drop 0).take (a.length - 4 - 0)).toArray⟩ : Str) = ⟨(a.take (a.length - 4)).toArray⟩
  rw [List.drop_zero, Nat.sub_zero]
def oddTs : List (List Nat) := ["", "|", "||||", "|||||0000", "0000"].map fun s => (Str.ofString s).cps.toList
theorem odd_const : ∀ t ∈ oddTs, Odd t := by
  have h : ∀ t ∈ oddTs, readOf t = none ∧ (∀ c ∈ t, c ≤ 126) ∧ t.length ≤ 800 := by decide +kernel
  exact fun t ht => ⟨(h t ht).1, (h t ht).2.1, (h t ht).2.2⟩
def otSt (L : Lt) (t : List Nat) (x3 x4 x5 x6 : Option Mi.SV) (b : Mi.BX) (S : List Mi.Ob) : Mi.St := ⟨[some (.io 0), some (.dat (Lt.d L)), some (.dat (.str (SX.S t))), x3, x4, x5, x6], [b], S⟩
theorem ptb_letter {L : Lt} (hL : LtG L) : PtB L.kind L.sender L.receiver (TL.numL L.number) L.fields := by
  have hn := hL.ok.number
  refine ptb_of ⟨nm_bar hL.ok.kind, asc_nm hL.ok.kind, by have := nm_len hL.ok.kind; omega⟩ ⟨nm_bar hL.ok.sender, asc_nm hL.ok.sender, by have := nm_len hL.ok.sender; omega⟩ ⟨nm_bar hL.ok.receiver, asc_nm hL.ok.receiver, by have := nm_len hL.ok.receiver; omega⟩ ⟨num_bar _, asc_num _, by have := num_len30 (n := L.number) (by omega); omega⟩ (fun f hf => ⟨fd_bar (hL.asc f hf), asc_fd (hL.asc f hf)⟩) ?_ (by have := hL.ok.fields.1; omega)
  have := szs_le' (m := 40) L.fields fun f hf => (hL.ok.fields.2 f hf).1
  have := hL.ok.fields.1
  omega
theorem odd_end {L : Lt} (hL : LtG L) {x : List Nat} (hb : NoBar x) (ha : Asc x) (hl : x.length ≤ 20) (hn : x ≠ chk L.body) : Odd (L.body ++ x) := odd_of (ptb_letter hL) ha hl (no_check (ptb_letter hL).p hb hn)
/-- a bar within the end -/
theorem odd_bar {L : Lt} (hL : LtG L) {y x : List Nat} (hy : NoBar y) (hx : NoBar x) (ay : Asc y) (ax : Asc x) (hyl : y.length ≤ 4) (hl : x.length < 4) : Odd (L.body ++ (y ++ [124] ++ x)) := by
  refine odd_of (ptb_letter hL) (asc_app (asc_app ay (asc_one (by decide))) ax) (by rw [List.length_append, List.length_append, List.length_singleton]; omega) ?_
  rw [body_more]
  refine no_check ⟨(ptb_letter hL).p.k, (ptb_letter hL).p.s, (ptb_letter hL).p.r, (ptb_letter hL).p.d, fun f hf => ?_⟩ hx fun e => ?_
  · rcases List.mem_append.mp hf with q | q
    · exact (ptb_letter hL).p.f f q
    · rw [List.mem_singleton.mp q]; exact hy
  · have := congrArg List.length e
    rw [chk_len] at this
    omega
theorem odd_text_eq {b : Mi.BX} (hb : Sr b) {L : Lt} (hL : LtG L) (S : List Mi.Ob) : ∃ t b', m_L_odd_text [.io 0, .dat (Lt.d L)] [b] S = .ok (.dat (.str (SX.S t))) [b'] S ∧ Odd t ∧ Sr b' := by
  have : ∃ d io', m_L_odd_text [.io 0, .dat (Lt.d L)] [b] S = .ok (.dat d) io' S ∧ ∃ t b', d = .str (SX.S t) ∧ io' = [b'] ∧ Odd t ∧ Sr b' := by
    refine Mi.gen_run ?_
    obtain ⟨w, b1, e1, w0, w1, hb1⟩ := pick_eq hb (many := 9) (by decide) (by decide) S
    have hn := hL.ok.number
    have lgn := lg L.number (by omega)
    have hP := ptb_letter hL
    have hB : L.body.length ≤ 770 := hP.len
    have hBa : Asc L.body := (body_asc hP.wr).1
    have hC := chk_len L.body
    unfold b_L_odd_text
    refine Mi.rp_cut (fun st => st = otSt L (L.body ++ chk L.body) none none none none b S) ?_ ?_
    · have hd : Lt.d L = .tup [.str (SX.S L.kind), .str (SX.S L.sender), .str (SX.S L.receiver), .int (L.number : Int), .lst (L.fields.map fun x => Mi.D.str (SX.S x))] := rfl
      rw [hd]
      walk_at "rp"
      rw [SX.num_S]
      refine ⟨lgn, ?_⟩
      refine Mi.rp_callD (lwritten_eq hP.wr S) rfl rfl ?_
      walk_at "rp"
      rfl
    intro st g
    subst g
    generalize hTT : L.body ++ chk L.body = T
    have hTl : T.length = L.body.length + 4 := by rw [← hTT, List.length_append, hC]
    have hdrop : T.drop (T.length - 4) = chk L.body := by
      rw [hTl, ← hTT, Nat.add_sub_cancel]
      exact List.drop_left ..
    have htake : T.take (T.length - 4) = L.body := by
      rw [hTl, ← hTT, Nat.add_sub_cancel]
      exact List.take_left ..
    refine Mi.rp_cut (fun st => st = otSt L T (some (.dat (.int w))) none none none b1 S) ?_ ?_
    · unfold otSt
      walk_at "rp"
      refine Mi.rp_callM e1 rfl rfl Mi.nod1 rfl rfl ?_
      walk_at "rp"
    intro st g
    subst g
    -- another check
    refine Mi.rp_cut (fun st => st = otSt L T (some (.dat (.int w))) none none none b1 S ∧ w ≠ 0) ?_ ?_
    · unfold otSt
      walk_at "rp"
      by_cases c : w = 0
      rotate_left
      · rw [if_neg c]
        exact c
      rw [if_pos c]
      walk_at "sq"
      walk_at "rp"
      obtain ⟨q, b2, e2, q0, q1, hb2⟩ := pick_eq hb1 (many := 9972) (by decide) (by decide) S
      obtain ⟨p, rfl⟩ := Int.eq_ofNat_of_zero_le q0
      have hck : wsum 1 L.body % 9973 < 9973 := Nat.mod_lt _ (by decide)
      have hval : NumText.digitsVal (chk L.body) = wsum 1 L.body % 9973 := by
        have := val_app 4 [] (wsum 1 L.body % 9973)
        rw [List.nil_append, show (10 : Nat) ^ 4 = 10000 by decide, Nat.mod_eq_of_lt (show wsum 1 L.body % 9973 < 10000 by omega), show NumText.digitsVal [] = 0 from rfl, Nat.zero_mul, Nat.zero_add] at this
        exact this
      have hall : (chk L.body).all (fun c => decide (48 ≤ c) && decide (c ≤ 57)) = true := by
        rw [List.all_eq_true]
        intro c hc
        have := chk_digit L.body c hc
        simp only [Bool.and_eq_true, decide_eq_true_eq]
        exact this
      have hint := SX.int_S hall (fun z => by rw [z] at hC; cases hC) (by omega)
      have eint : Mi.fIntS [.str (SX.S (chk L.body))] = some (.int ((wsum 1 L.body % 9973 : Nat) : Int)) := by
        unfold Mi.fIntS
        dsimp only
        rw [hint, SX.S_len, hval]
        dsimp only
        rw [if_pos (by omega)]
      have hckf : fix 4 (wsum 1 L.body % 9973) = chk L.body := rfl
      generalize wsum 1 L.body % 9973 = ck at hck hval eint hckf
      rw [cutS_end4 (by omega), hdrop, SX.S_len]
      refine ⟨szl (by omega), _, eint, ?_⟩
      walk_at "sq"
      walk_at "rp"
      refine Mi.rp_callM e2 rfl rfl Mi.nod1 rfl rfl ?_
      walk_at "rp"
      have ho : ((ck : Int) + 1 + (p : Int)) % 9973 = (((ck + 1 + p) % 9973 : Nat) : Int) := by omega
      have ho2 : (ck + 1 + p) % 9973 < 9973 := Nat.mod_lt _ (by decide)
      have ho3 : (ck + 1 + p) % 9973 ≠ ck := by omega
      rw [ho]
      generalize (ck + 1 + p) % 9973 = o at ho2 ho3
      have hl5 : (TL.numL o).length ≤ 4 := TL.numL_len (by decide) (by omega)
      have lgo := lg o (by omega)
      have hfx := digs_of ho2
      rw [SX.num_S, SX.S_len, SX.S_len, s0, cutS_but4 (by omega), htake, rep_S 48 (by omega), show (4 - ((TL.numL o).length : Int)).toNat = 4 - (TL.numL o).length by omega, SX.S_cat, SX.S_cat, SX.S_len, SX.S_len, SX.S_len, SX.S_len, List.append_assoc, hfx, List.length_append, List.length_replicate, List.length_singleton]
      refine ⟨lgo, szl (by omega), szl (by omega), by omega, by omega, by omega, szl (by omega), szl (by omega), szl (by omega), _, b2, rfl, rfl, odd_end hL (fun z => ?_) (fun c hc => ?_) (by rw [fix_len]; omega) fun z => ?_, hb2⟩
      · have := fix_digits _ _ 124 z
        omega
      · have := fix_digits _ _ c hc
        omega
      · rw [← hckf] at z
        exact ho3 (fix4_inj (by omega) (by omega) z)
    intro st g
    obtain ⟨rfl, c0⟩ := g
    -- cut short
    refine Mi.rp_cut (fun st => st = otSt L T (some (.dat (.int w))) none none none b1 S ∧ w ≠ 1) ?_ ?_
    · unfold otSt
      walk_at "rp"
      by_cases c : w = 1
      rotate_left
      · rw [if_neg c]
        exact c
      rw [if_pos c]
      obtain ⟨q, b2, e2, q0, q1, hb2⟩ := pick_eq hb1 (many := 4) (by decide) (by decide) S
      obtain ⟨p, rfl⟩ := Int.eq_ofNat_of_zero_le q0
      rw [SX.S_len]
      refine ⟨szl (by omega), ?_⟩
      refine Mi.rp_callM e2 rfl rfl Mi.nod1 rfl rfl ?_
      walk_at "rp"
      rw [cutS_to (by omega)]
      refine ⟨szl (by omega), _, b2, rfl, rfl, ?_, hb2⟩
      have e3 : T.take ((T.length : Int) - 1 - (p : Int)).toNat = L.body ++ (chk L.body).take (3 - p) := by
        rw [← hTT, List.take_append, List.take_of_length_le (by rw [hTT]; omega), hTT, show ((T.length : Int) - 1 - (p : Int)).toNat - L.body.length = 3 - p by omega]
      rw [e3]
      exact odd_end hL (chk_take_bar _ _) (asc_take (asc_chk _) _) (by rw [List.length_take]; omega) fun z => by
        have := congrArg List.length z
        rw [List.length_take] at this
        omega
    intro st g
    obtain ⟨rfl, c1⟩ := g
    -- one sign more
    refine Mi.rp_cut (fun st => st = otSt L T (some (.dat (.int w))) none none none b1 S ∧ w ≠ 2) ?_ ?_
    · unfold otSt
      walk_at "rp"
      by_cases c : w = 2
      rotate_left
      · rw [if_neg c]
        exact c
      rw [if_pos c]
      obtain ⟨q, b2, e2, q0, q1, hb2⟩ := pick_eq hb1 (many := 4) (by decide) (by decide) S
      obtain ⟨p, rfl⟩ := Int.eq_ofNat_of_zero_le q0
      refine Mi.rp_callM e2 rfl rfl Mi.nod1 rfl rfl ?_
      walk_at "rp"
      obtain ⟨c, k1, k2⟩ := atI_mem (l := [32, 48, 124, 97]) (n := (p : Int)) (by omega) (by show (p : Int) < 4; omega)
      rw [show Str.ofString " 0|a" = SX.S [32, 48, 124, 97] from rfl]
      refine ⟨_, fIxS_S (by decide) k1, ?_⟩
      walk_at "rp"
      rw [SX.S_cat, SX.S_len, SX.S_len]
      refine ⟨szl (by rw [List.length_singleton]; omega), _, b2, rfl, rfl, ?_, hb2⟩
      rw [← hTT, List.append_assoc]
      by_cases c124 : c = 124
      · subst c124
        have := odd_bar hL (chk_bar L.body) (fun z => by cases z) (asc_chk _) (x := []) (fun c hc => by cases hc) (by omega) (by decide)
        rw [List.append_nil] at this
        exact this
      · have hc126 : c ≤ 126 := by
          simp only [List.mem_cons, List.not_mem_nil, or_false] at k2
          omega
        exact odd_end hL (fun z => by
          rcases List.mem_append.mp z with z | z
          · exact chk_bar _ z
          · exact c124 (List.mem_singleton.mp z).symm) (asc_app (asc_chk _) (asc_one hc126)) (by rw [List.length_append, List.length_singleton]; omega) fun z => by
          have := congrArg List.length z
          rw [List.length_append, List.length_singleton] at this
          omega
    intro st g
    obtain ⟨rfl, c2⟩ := g
    -- another sign
    refine Mi.rp_cut (fun st => st = otSt L T (some (.dat (.int w))) none none none b1 S ∧ w ≠ 3) ?_ ?_
    · unfold otSt
      walk_at "rp"
      by_cases c : w = 3
      rotate_left
      · rw [if_neg c]
        exact c
      rw [if_pos c]
      obtain ⟨q, b2, e2, q0, q1, hb2⟩ := pick_eq hb1 (many := 4) (by decide) (by decide) S
      obtain ⟨p, rfl⟩ := Int.eq_ofNat_of_zero_le q0
      walk_at "sq"
      walk_at "rp"
      obtain ⟨q2, b3, e3, q20, q21, hb3⟩ := pick_eq hb2 (many := 7) (by decide) (by decide) S
      obtain ⟨p2, rfl⟩ := Int.eq_ofNat_of_zero_le q20
      rw [SX.S_len]
      refine ⟨szl (by omega), ?_⟩
      refine Mi.rp_callM e2 rfl rfl Mi.nod1 rfl rfl ?_
      walk_at "rp"
      rw [SX.S_len, cutS_to (by omega)]
      refine ⟨szl (by omega), ?_⟩
      refine Mi.rp_callM e3 rfl rfl Mi.nod1 rfl rfl ?_
      walk_at "rp"
      obtain ⟨c, k1, k2⟩ := atI_mem (l := [32, 43, 45, 124, 97, 120, 46]) (n := (p2 : Int)) (by omega) (by show (p2 : Int) < 7; omega)
      rw [show Str.ofString " +-|ax." = SX.S [32, 43, 45, 124, 97, 120, 46] from rfl]
      refine ⟨_, fIxS_S (by decide) k1, ?_⟩
      walk_at "rp"
      have e4 : T.take ((T.length : Int) - 1 - (p : Int)).toNat = L.body ++ (chk L.body).take (3 - p) := by
        rw [← hTT, List.take_append, List.take_of_length_le (by rw [hTT]; omega), hTT, show ((T.length : Int) - 1 - (p : Int)).toNat - L.body.length = 3 - p by omega]
      have e5 : T.drop ((T.length : Int) - 1 - (p : Int) + 1).toNat = (chk L.body).drop (4 - p) := by
        rw [← hTT, List.drop_append, List.drop_of_length_le (by rw [hTT]; omega), List.nil_append, hTT, show ((T.length : Int) - 1 - (p : Int) + 1).toNat - L.body.length = 4 - p by omega]
      rw [cutS_from (by omega), e4, e5, SX.S_cat, SX.S_cat, SX.S_len, SX.S_len, SX.S_len, SX.S_len, SX.S_len]
      have hz1 : (L.body ++ (chk L.body).take (3 - p)).length ≤ 780 := by rw [List.length_append, List.length_take]; omega
      have hz2 : ((chk L.body).drop (4 - p)).length ≤ 4 := by rw [List.length_drop]; omega
      refine ⟨szl (by rw [List.length_singleton]; omega), szl (by omega), szl (by rw [List.length_append, List.length_singleton]; omega), _, b3, rfl, rfl, ?_, hb3⟩
      rw [List.append_assoc, List.append_assoc]
      have hc126 : c ≤ 126 ∧ ¬(48 ≤ c ∧ c ≤ 57) := by
        simp only [List.mem_cons, List.not_mem_nil, or_false] at k2
        omega
      by_cases c124 : c = 124
      · subst c124
        have := odd_bar hL (chk_take_bar L.body (3 - p)) (chk_drop_bar L.body (4 - p)) (asc_take (asc_chk _) _) (asc_drop (asc_chk _) _) (by rw [List.length_take]; omega) (by rw [List.length_drop]; omega)
        rw [List.append_assoc] at this
        exact this
      · refine odd_end hL (fun z => ?_) (asc_app (asc_take (asc_chk _) _) (asc_app (asc_one hc126.1) (asc_drop (asc_chk _) _))) ?_ fun z => ?_
        · rcases List.mem_append.mp z with z | z
          · exact chk_take_bar _ _ z
          · rcases List.mem_append.mp z with z | z
            · exact c124 (List.mem_singleton.mp z).symm
            · exact chk_drop_bar _ _ z
        · rw [List.length_append, List.length_append, List.length_take, List.length_singleton]
          omega
        · have hm : c ∈ chk L.body := by rw [← z]; simp
          exact hc126.2 (chk_digit _ c hm)
    intro st g
    obtain ⟨rfl, c3⟩ := g
    -- no letters at all
    refine Mi.rp_cut (fun st => st = otSt L T (some (.dat (.int w))) none none none b1 S) ?_ ?_
    · unfold otSt
      walk_at "rp"
      by_cases c : w = 4
      rotate_left
      · rw [if_neg c]
        trivial
      rw [if_pos c]
      obtain ⟨q, b2, e2, q0, q1, hb2⟩ := pick_eq hb1 (many := 5) (by decide) (by decide) S
      obtain ⟨p, rfl⟩ := Int.eq_ofNat_of_zero_le q0
      refine ⟨by decide, ?_⟩
      refine Mi.rp_callM e2 rfl rfl Mi.nod1 rfl rfl ?_
      walk_at "rp"
      obtain ⟨d, h1, h2⟩ := atI_at (l := oddTs) (n := (p : Int)) (by omega) (by show (p : Int) < 5; omega)
      refine ⟨.str (SX.S d), ?_, d, b2, rfl, rfl, odd_const d (List.mem_of_getElem? h2), hb2⟩
      have e : [Mi.D.str (Str.ofString ""), Mi.D.str (Str.ofString "|"), Mi.D.str (Str.ofString "||||"), Mi.D.str (Str.ofString "|||||0000"), Mi.D.str (Str.ofString "0000")] = oddTs.map fun d => Mi.D.str (SX.S d) := rfl
      rw [e]
      exact atI_nat (by rw [List.getElem?_map, show oddTs[p]? = some d from h2]; rfl)
    intro st g
    subst g
    obtain ⟨t, b2, e2, ht, hb2⟩ := odd_parts_eq hb1 hL S
    unfold otSt
    walk_at "rp"
    refine Mi.rp_callM e2 rfl rfl Mi.nod1 rfl rfl ?_
    walk_at "rp"
    exact ⟨t, b2, rfl, rfl, ht, hb2⟩
  obtain ⟨_, _, e, t, b', rfl, rfl, h⟩ := this
  exact ⟨t, b', e, h⟩

--== cut
/-! ### the law -/
theorem damaged_eq {t : List Nat} (ht : Odd t) (S : List Mi.Ob) : ∃ S', m_L_damaged [.dat (.str (SX.S t))] [] S = .ok (.dat (.bl true)) [] S' := by
  have hr := read_eq ht.asc ht.len S
  unfold ReadR at hr
  rw [ht.no] at hr
  obtain ⟨S', e⟩ := hr
  have hk := strs_same (ls := [(Str.ofString "Damaged").cps.toList]) (fun f hf => by rw [List.mem_singleton.mp hf]; unfold Asc; decide +kernel) (by decide +kernel)
  refine ⟨S', Mi.run_isN ?_⟩
  unfold b_L_damaged
  generalize m_read_letter = M1 at e ⊢
  walk_at "go"
  refine Mi.rp_callIs e rfl rfl ?_
  rw [Mi.rpF_err]
  walk_at "go"
  exact ⟨_, hk, (fun z hz hx => by rw [hx] at hz; cases hz), rfl⟩
def lwSt (ns : List Int) (L : Lt) (x4 x5 : Option Mi.SV) (S : List Mi.Ob) : Mi.St := ⟨[some (.dat (.lst (ns.map Mi.D.int))), some (.dat (Lt.d L)), some (.dat (.lst (L.fields.map fun f => Mi.D.str (SX.S f)))), some (.dat (.str (SX.S L.text))), x4, x5], [], S⟩
theorem law_true (ns : List Int) (h : ns.length ≤ 63) (hb : ∀ z ∈ ns, Builtin.Int.intBits z ≤ 1048576) : ∃ io S, m_law [.dat (.lst (ns.map Mi.D.int))] [] [] = .ok (.dat (.bl true)) io S := by
  suffices h : ∃ x io S, m_law [.dat (.lst (ns.map Mi.D.int))] [] [] = .ok (.dat x) io S ∧ x = .bl true by
    obtain ⟨_, io, S, e, rfl⟩ := h
    exact ⟨io, S, e⟩
  refine Mi.all_run ?_
  have hg : ∀ k, Builtin.Int.intBits (Mi.getI ns k) ≤ 1048576 := fun k => by
    unfold Mi.getI
    by_cases c : k < ns.length
    · rw [List.getD, List.getElem?_eq_getElem c]
      exact hb _ (List.getElem_mem c)
    · rw [List.getD, List.getElem?_eq_none (by omega)]
      decide
  obtain ⟨b0, e0, h0⟩ := source_eq (Mi.getI ns 0) (hg 0) 0 (by decide) []
  obtain ⟨b1, e1, h1⟩ := source_eq (Mi.getI ns 1) (hg 1) 1 (by decide) []
  obtain ⟨L, c1, c2, eL, hL, _, _⟩ := letter_eq h0 h1 []
  have hP := ptb_letter hL
  have hB : L.body.length ≤ 770 := hP.len
  have hTa : Asc L.text := asc_app (body_asc hP.wr).1 (asc_chk _)
  have hTl : L.text.length ≤ 800 := by unfold Lt.text; rw [List.length_append, chk_len]; omega
  have hrd : ∀ S, m_read_letter [.dat (.str (SX.S L.text))] [] S = .ok (.dat (Lt.db S.length L)) [] (S ++ [fsB L.fields]) := fun S => by
    have hr := read_eq hTa hTl S
    unfold ReadR at hr
    rw [read_back hL.ok] at hr
    exact hr
  have hfa : ∀ f ∈ L.fields, Asc f := fun f hf => asc_fd (hL.asc f hf)
  have hfl : ∀ f ∈ L.fields, f.length ≤ 1000 := fun f hf => by have := (hL.ok.fields.2 f hf).1; omega
  have hn := hL.ok.number
  have lgn := lg L.number (by omega)
  unfold b_law
  refine Mi.rp_cut (fun st => st = ⟨[some (.dat (.lst (ns.map Mi.D.int))), some (.dat (Lt.d L)), none, none, none, none], [], []⟩) ?_ ?_
  · walk_at "rp"
    refine Mi.rp_callD (cell_eq ns 0 []) rfl rfl ?_
    walk_at "rp"
    refine Mi.rp_callX e0 rfl rfl ?_
    walk_at "rp"
    refine Mi.rp_callD (cell_eq ns 1 []) rfl rfl ?_
    walk_at "rp"
    refine Mi.rp_callX e1 rfl rfl ?_
    walk_at "rp"
    refine Mi.rp_callM eL rfl rfl Mi.nod2t rfl rfl ?_
    walk_at "rp"
  intro st g
  subst g
  refine Mi.rp_cut (fun st => st = ⟨[some (.dat (.lst (ns.map Mi.D.int))), some (.dat (Lt.d L)), some (.dat (.lst (L.fields.map fun f => Mi.D.str (SX.S f)))), none, none, none], [], []⟩) ?_ ?_
  · have hd : Lt.d L = .tup [.str (SX.S L.kind), .str (SX.S L.sender), .str (SX.S L.receiver), .int (L.number : Int), .lst (L.fields.map fun x => Mi.D.str (SX.S x))] := rfl
    rw [hd]
    walk_at "rp"
    exact ⟨_, rfl, rfl⟩
  intro st g
  subst g
  refine Mi.rp_cut (fun st => st = lwSt ns L none none []) ?_ ?_
  · have hd : Lt.d L = .tup [.str (SX.S L.kind), .str (SX.S L.sender), .str (SX.S L.receiver), .int (L.number : Int), .lst (L.fields.map fun x => Mi.D.str (SX.S x))] := rfl
    rw [hd]
    walk_at "rp"
    rw [SX.num_S]
    refine ⟨lgn, ?_⟩
    refine Mi.rp_callD (lwritten_eq hP.wr []) rfl rfl ?_
    walk_at "rp"
    rfl
  intro st g
  subst g
  refine Mi.rp_cut (fun st => st = lwSt ns L (some (.dat (Lt.db 0 L))) none [fsB L.fields]) ?_ ?_
  · unfold lwSt
    walk_at "go"
    refine Mi.rp_callIs (hrd []) rfl rfl ?_
    rw [Mi.rpF_ok]
    walk_at "go"
  intro st g
  subst g
  have hj : ([fsB L.fields] : List Mi.Ob)[0]? = some (fsB L.fields) := rfl
  have hil := is_letter_eq hfa hfl hj
  have hwt : Wt L := ⟨⟨by have := nm_len hL.ok.kind; omega, by have := nm_len hL.ok.sender; omega, by have := nm_len hL.ok.receiver; omega, by have := hL.ok.fields.1; omega, hfl⟩, hP.wr, by omega⟩
  have hwr := write_eq hwt hj
  unfold wrote at hwr
  rw [if_pos hL.ok] at hwr
  have hwr : m_write_letter [.dat (Lt.db 0 L)] [] [fsB L.fields] = .ok (.dat (.str (SX.S L.text))) [] [fsB L.fields] := hwr
  refine Mi.rp_cut (fun st => st = lwSt ns L (some (.dat (Lt.db 0 L))) none [fsB L.fields]) ?_ ?_
  · unfold lwSt
    walk_at "go"
    refine Mi.rp_callIs hil rfl rfl ?_
    rw [Mi.rpF_ok]
    walk_at "go"
    refine Mi.rp_callIs hwr rfl rfl ?_
    rw [Mi.rpF_ok]
    walk_at "go"
  intro st g
  subst g
  have szf : (L.fields.map fun f => Mi.D.str (SX.S f)).length < sizeLine := by
    rw [List.length_map]
    have := hL.ok.fields.1
    exact Nat.lt_of_le_of_lt (show _ ≤ 8 by omega) (by decide)
  refine Mi.rp_cut (fun st => ∃ S, st = lwSt ns L (some (.dat (Lt.db 0 L))) none S ∧ ∃ ds : List Mi.D, S = [.bx (.lst ds)] ∧ L.fields.length < ds.length) ?_ ?_
  · unfold lwSt Lt.db
    walk_at "go"
    exact ⟨_, rfl, _, rfl, szf, _, rfl, by simp⟩
  intro st g
  obtain ⟨_, rfl, ds, rfl, hds⟩ := g
  refine Mi.rp_cut (fun st => ∃ S, st = lwSt ns L (some (.dat (Lt.db 0 L))) none S) ?_ ?_
  · unfold lwSt Lt.db
    walk_at "go"
    by_cases c : 0 < ((L.fields.map fun f => Mi.D.str (SX.S f)).length : Int)
    · rw [if_pos c]
      refine ⟨0, ?_, _, rfl⟩
      unfold ixN
      rw [if_pos (by decide), if_pos (by omega)]
      rfl
    · rw [if_neg c]
      exact ⟨_, rfl⟩
  intro st g
  obtain ⟨S, rfl⟩ := g
  refine Mi.rp_cut (fun st => ∃ x5 S, st = lwSt ns L (some (.dat (Lt.db 0 L))) x5 S) ?_ ?_
  · with_reducible refine Mi.rp_rng1 4 (fun i st => ∃ x5 S, st = lwSt ns L (some (.dat (Lt.db 0 L))) x5 S) (by decide) ?_ ?_ ?_
    · walk_at "go"
      exact ⟨_, _, rfl⟩
    · intro i st hi g
      with_reducible refine Mi.RpI.to ?_
      obtain ⟨x5, S, rfl⟩ := g
      obtain ⟨d0, f0, k0⟩ := source_eq (Mi.getI ns (2 + i)) (hg _) (2 + i) (by omega) S
      obtain ⟨t, d1, f1, k1, k2⟩ := odd_text_eq k0 hL S
      obtain ⟨S2, f2⟩ := damaged_eq k1 S
      have f3 := cell_eq ns (2 + i) S
      rw [show ((2 + i : Nat) : Int) = 2 + (i : Int) by omega] at f0 f3
      unfold lwSt
      with_reducible refine Mi.RpI.of ?_
      walk_at "go"
      refine Mi.rp_callD f3 rfl rfl ?_
      walk_at "go"
      refine Mi.rp_callX f0 rfl rfl ?_
      walk_at "go"
      refine Mi.rp_callM f1 rfl rfl Mi.nod1 rfl rfl ?_
      walk_at "go"
      refine Mi.rp_callIs f2 rfl rfl ?_
      rw [Mi.rpF_ok]
      walk_at "go"
      exact ⟨_, _, rfl, rfl⟩
    · intro st g
      exact g
  intro st g
  obtain ⟨x5, S, rfl⟩ := g
  have hj2 : (S ++ [fsB L.fields])[S.length]? = some (fsB L.fields) := by
    rw [List.getElem?_append_right (Nat.le_refl _), Nat.sub_self]
    rfl
  have hil2 := is_letter_eq hfa hfl hj2
  unfold lwSt
  walk_at "go"
  refine Mi.rp_callIs (hrd S) rfl rfl ?_
  rw [Mi.rpF_ok]
  walk_at "go"
  refine Mi.rp_callIs hil2 rfl rfl ?_
  rw [Mi.rpF_ok]
  walk_at "go"
  exact rfl

def top (i : Nat) : Stmt := PySem.Challenge.pw_corebank_k26_letter_read_back.main.body.getD i (.Pass ⟨0, 0, 0, 0⟩)
abbrev s_is_name : Stmt := top 13
abbrev s_check_name : Stmt := top 14
abbrev s_check_fields : Stmt := top 23
abbrev s_check_letter : Stmt := top 24
abbrev s_check_digits_of : Stmt := top 25
abbrev s_write_letter : Stmt := top 26
abbrev s_is_written : Stmt := top 27
abbrev s_read_letter : Stmt := top 28
abbrev s_L_cell : Stmt := top 30
abbrev s_L_source : Stmt := top 31
abbrev s_L_pick : Stmt := top 32
abbrev s_L_name : Stmt := top 33
abbrev s_L_text : Stmt := top 34
abbrev s_L_check : Stmt := top 35
abbrev s_L_written : Stmt := top 36
abbrev s_L_letter : Stmt := top 37
abbrev s_L_bad_name : Stmt := top 38
abbrev s_L_errors : Stmt := top 39
abbrev s_L_is_letter : Stmt := top 40
abbrev s_L_odd_digits : Stmt := top 41
abbrev s_L_odd_parts : Stmt := top 42
abbrev s_L_odd_text : Stmt := top 43
abbrev s_L_damaged : Stmt := top 44
abbrev s_law : Stmt := top 45
theorem sc_is_name : FnScope ["text", "sign"] ["text"] (defScope s_is_name) := ⟨rfl, rfl, rfl, by decide +kernel, rfl, by decide +kernel, by decide +kernel⟩
theorem sc_check_name : FnScope ["text"] ["text"] (defScope s_check_name) := ⟨rfl, rfl, rfl, by decide +kernel, rfl, by decide +kernel, by decide +kernel⟩
theorem sc_check_fields : FnScope ["fields", "field"] ["fields"] (defScope s_check_fields) := ⟨rfl, rfl, rfl, by decide +kernel, rfl, by decide +kernel, by decide +kernel⟩
theorem sc_check_letter : FnScope ["letter", "kind", "sender", "receiver", "number", "fields"] ["letter"] (defScope s_check_letter) := ⟨rfl, rfl, rfl, by decide +kernel, rfl, by decide +kernel, by decide +kernel⟩
theorem sc_check_digits_of : FnScope ["body", "total", "place", "sign"] ["body"] (defScope s_check_digits_of) := ⟨rfl, rfl, rfl, by decide +kernel, rfl, by decide +kernel, by decide +kernel⟩
theorem sc_write_letter : FnScope ["letter", "kind", "sender", "receiver", "number", "fields", "body"] ["letter"] (defScope s_write_letter) := ⟨rfl, rfl, rfl, by decide +kernel, rfl, by decide +kernel, by decide +kernel⟩
theorem sc_is_written : FnScope ["letter", "text"] ["letter", "text"] (defScope s_is_written) := ⟨rfl, rfl, rfl, by decide +kernel, rfl, by decide +kernel, by decide +kernel⟩
theorem sc_read_letter : FnScope ["text", "parts", "kind", "sender", "receiver", "digits", "letter"] ["text"] (defScope s_read_letter) := ⟨rfl, rfl, rfl, by decide +kernel, rfl, by decide +kernel, by decide +kernel⟩
theorem sc_L_cell : FnScope ["script", "k"] ["script", "k"] (defScope s_L_cell) := ⟨rfl, rfl, rfl, by decide +kernel, rfl, by decide +kernel, by decide +kernel⟩
theorem sc_L_source : FnScope ["cell", "k"] ["cell", "k"] (defScope s_L_source) := ⟨rfl, rfl, rfl, by decide +kernel, rfl, by decide +kernel, by decide +kernel⟩
theorem sc_L_pick : FnScope ["source", "many", "picked", "mixed"] ["source", "many"] (defScope s_L_pick) := ⟨rfl, rfl, rfl, by decide +kernel, rfl, by decide +kernel, by decide +kernel⟩
theorem sc_L_name : FnScope ["source", "signs", "name", "k"] ["source"] (defScope s_L_name) := ⟨rfl, rfl, rfl, by decide +kernel, rfl, by decide +kernel, by decide +kernel⟩
theorem sc_L_text : FnScope ["source", "most", "signs", "size", "k"] ["source", "most"] (defScope s_L_text) := ⟨rfl, rfl, rfl, by decide +kernel, rfl, by decide +kernel, by decide +kernel⟩
theorem sc_L_check : FnScope ["body", "total", "k", "digits"] ["body"] (defScope s_L_check) := ⟨rfl, rfl, rfl, by decide +kernel, rfl, by decide +kernel, by decide +kernel⟩
theorem sc_L_written : FnScope ["kind", "sender", "receiver", "digits", "fields", "body"] ["kind", "sender", "receiver", "digits", "fields"] (defScope s_L_written) := ⟨rfl, rfl, rfl, by decide +kernel, rfl, by decide +kernel, by decide +kernel⟩
theorem sc_L_letter : FnScope ["source", "more", "number", "many", "fields", "k"] ["source", "more"] (defScope s_L_letter) := ⟨rfl, rfl, rfl, by decide +kernel, rfl, by decide +kernel, by decide +kernel⟩
theorem sc_L_bad_name : FnScope ["source", "name", "which", "odd", "at"] ["source"] (defScope s_L_bad_name) := ⟨rfl, rfl, rfl, by decide +kernel, rfl, by decide +kernel, by decide +kernel⟩
theorem sc_L_errors : FnScope ["e", "found"] ["e"] (defScope s_L_errors) := ⟨rfl, rfl, rfl, by decide +kernel, rfl, by decide +kernel, by decide +kernel⟩
theorem sc_L_is_letter : FnScope ["actual", "expected", "k"] ["actual", "expected"] (defScope s_L_is_letter) := ⟨rfl, rfl, rfl, by decide +kernel, rfl, by decide +kernel, by decide +kernel⟩
theorem sc_L_odd_digits : FnScope ["source", "number", "which"] ["source", "number"] (defScope s_L_odd_digits) := ⟨rfl, rfl, rfl, by decide +kernel, rfl, by decide +kernel, by decide +kernel⟩
theorem sc_L_odd_parts : FnScope ["source", "letter", "names", "fields", "digits", "which", "field", "at", "body"] ["source", "letter"] (defScope s_L_odd_parts) := ⟨rfl, rfl, rfl, by decide +kernel, rfl, by decide +kernel, by decide +kernel⟩
theorem sc_L_odd_text : FnScope ["source", "letter", "text", "which", "check", "other", "at"] ["source", "letter"] (defScope s_L_odd_text) := ⟨rfl, rfl, rfl, by decide +kernel, rfl, by decide +kernel, by decide +kernel⟩
theorem sc_L_damaged : FnScope ["text", "e"] ["text"] (defScope s_L_damaged) := ⟨rfl, rfl, rfl, by decide +kernel, rfl, by decide +kernel, by decide +kernel⟩
theorem sc_law : FnScope ["script", "letter", "fields", "text", "first", "k"] ["script"] (defScope s_law) := ⟨rfl, rfl, rfl, by decide +kernel, rfl, by decide +kernel, by decide +kernel⟩
set_option genInjectivity false in
set_option genSizeOf false in
structure Txt (K : PySem.W.Frag) (mg : Str → Option Value) extends Kv.Errs K mg where
  a_is_name : Addr
  d_is_name : FuncData
  g_is_name : mg "is_name" = some (.ref a_is_name)
  F_is_name : Fun K "is_name" "is_name" s_is_name a_is_name d_is_name
  b_is_name : Binds K d_is_name ["text"] []
  a_check_name : Addr
  d_check_name : FuncData
  g_check_name : mg "check_name" = some (.ref a_check_name)
  F_check_name : Fun K "check_name" "check_name" s_check_name a_check_name d_check_name
  b_check_name : Binds K d_check_name ["text"] []
  a_check_fields : Addr
  d_check_fields : FuncData
  g_check_fields : mg "check_fields" = some (.ref a_check_fields)
  F_check_fields : Fun K "check_fields" "check_fields" s_check_fields a_check_fields d_check_fields
  b_check_fields : Binds K d_check_fields ["fields"] []
  a_check_letter : Addr
  d_check_letter : FuncData
  g_check_letter : mg "check_letter" = some (.ref a_check_letter)
  F_check_letter : Fun K "check_letter" "check_letter" s_check_letter a_check_letter d_check_letter
  b_check_letter : Binds K d_check_letter ["letter"] []
  a_check_digits_of : Addr
  d_check_digits_of : FuncData
  g_check_digits_of : mg "check_digits_of" = some (.ref a_check_digits_of)
  F_check_digits_of : Fun K "check_digits_of" "check_digits_of" s_check_digits_of a_check_digits_of d_check_digits_of
  b_check_digits_of : Binds K d_check_digits_of ["body"] []
  a_write_letter : Addr
  d_write_letter : FuncData
  g_write_letter : mg "write_letter" = some (.ref a_write_letter)
  F_write_letter : Fun K "write_letter" "write_letter" s_write_letter a_write_letter d_write_letter
  b_write_letter : Binds K d_write_letter ["letter"] []
  a_is_written : Addr
  d_is_written : FuncData
  g_is_written : mg "is_written" = some (.ref a_is_written)
  F_is_written : Fun K "is_written" "is_written" s_is_written a_is_written d_is_written
  b_is_written : Binds K d_is_written ["letter", "text"] []
  a_read_letter : Addr
  d_read_letter : FuncData
  g_read_letter : mg "read_letter" = some (.ref a_read_letter)
  F_read_letter : Fun K "read_letter" "read_letter" s_read_letter a_read_letter d_read_letter
  b_read_letter : Binds K d_read_letter ["text"] []
  a__law_cell : Addr
  d__law_cell : FuncData
  g__law_cell : mg "_law_cell" = some (.ref a__law_cell)
  F__law_cell : Fun K "_law_cell" "_law_cell" s_L_cell a__law_cell d__law_cell
  b__law_cell : Binds K d__law_cell ["script", "k"] []
  a__law_source : Addr
  d__law_source : FuncData
  g__law_source : mg "_law_source" = some (.ref a__law_source)
  F__law_source : Fun K "_law_source" "_law_source" s_L_source a__law_source d__law_source
  b__law_source : Binds K d__law_source ["cell", "k"] []
  a__law_pick : Addr
  d__law_pick : FuncData
  g__law_pick : mg "_law_pick" = some (.ref a__law_pick)
  F__law_pick : Fun K "_law_pick" "_law_pick" s_L_pick a__law_pick d__law_pick
  b__law_pick : Binds K d__law_pick ["source", "many"] []
  a__law_name : Addr
  d__law_name : FuncData
  g__law_name : mg "_law_name" = some (.ref a__law_name)
  F__law_name : Fun K "_law_name" "_law_name" s_L_name a__law_name d__law_name
  b__law_name : Binds K d__law_name ["source"] []
  a__law_text : Addr
  d__law_text : FuncData
  g__law_text : mg "_law_text" = some (.ref a__law_text)
  F__law_text : Fun K "_law_text" "_law_text" s_L_text a__law_text d__law_text
  b__law_text : Binds K d__law_text ["source", "most"] []
  a__law_check : Addr
  d__law_check : FuncData
  g__law_check : mg "_law_check" = some (.ref a__law_check)
  F__law_check : Fun K "_law_check" "_law_check" s_L_check a__law_check d__law_check
  b__law_check : Binds K d__law_check ["body"] []
  a__law_written : Addr
  d__law_written : FuncData
  g__law_written : mg "_law_written" = some (.ref a__law_written)
  F__law_written : Fun K "_law_written" "_law_written" s_L_written a__law_written d__law_written
  b__law_written : Binds K d__law_written ["kind", "sender", "receiver", "digits", "fields"] []
  a__law_letter : Addr
  d__law_letter : FuncData
  g__law_letter : mg "_law_letter" = some (.ref a__law_letter)
  F__law_letter : Fun K "_law_letter" "_law_letter" s_L_letter a__law_letter d__law_letter
  b__law_letter : Binds K d__law_letter ["source", "more"] []
  a__law_bad_name : Addr
  d__law_bad_name : FuncData
  g__law_bad_name : mg "_law_bad_name" = some (.ref a__law_bad_name)
  F__law_bad_name : Fun K "_law_bad_name" "_law_bad_name" s_L_bad_name a__law_bad_name d__law_bad_name
  b__law_bad_name : Binds K d__law_bad_name ["source"] []
  a__law_errors : Addr
  d__law_errors : FuncData
  g__law_errors : mg "_law_errors" = some (.ref a__law_errors)
  F__law_errors : Fun K "_law_errors" "_law_errors" s_L_errors a__law_errors d__law_errors
  b__law_errors : Binds K d__law_errors ["e"] []
  a__law_is_letter : Addr
  d__law_is_letter : FuncData
  g__law_is_letter : mg "_law_is_letter" = some (.ref a__law_is_letter)
  F__law_is_letter : Fun K "_law_is_letter" "_law_is_letter" s_L_is_letter a__law_is_letter d__law_is_letter
  b__law_is_letter : Binds K d__law_is_letter ["actual", "expected"] []
  a__law_odd_digits : Addr
  d__law_odd_digits : FuncData
  g__law_odd_digits : mg "_law_odd_digits" = some (.ref a__law_odd_digits)
  F__law_odd_digits : Fun K "_law_odd_digits" "_law_odd_digits" s_L_odd_digits a__law_odd_digits d__law_odd_digits
  b__law_odd_digits : Binds K d__law_odd_digits ["source", "number"] []
  a__law_odd_parts : Addr
  d__law_odd_parts : FuncData
  g__law_odd_parts : mg "_law_odd_parts" = some (.ref a__law_odd_parts)
  F__law_odd_parts : Fun K "_law_odd_parts" "_law_odd_parts" s_L_odd_parts a__law_odd_parts d__law_odd_parts
  b__law_odd_parts : Binds K d__law_odd_parts ["source", "letter"] []
  a__law_odd_text : Addr
  d__law_odd_text : FuncData
  g__law_odd_text : mg "_law_odd_text" = some (.ref a__law_odd_text)
  F__law_odd_text : Fun K "_law_odd_text" "_law_odd_text" s_L_odd_text a__law_odd_text d__law_odd_text
  b__law_odd_text : Binds K d__law_odd_text ["source", "letter"] []
  a__law_damaged : Addr
  d__law_damaged : FuncData
  g__law_damaged : mg "_law_damaged" = some (.ref a__law_damaged)
  F__law_damaged : Fun K "_law_damaged" "_law_damaged" s_L_damaged a__law_damaged d__law_damaged
  b__law_damaged : Binds K d__law_damaged ["text"] []
  a_law : Addr
  d_law : FuncData
  g_law : mg "law" = some (.ref a_law)
  F_law : Fun K "law" "law" s_law a_law d_law
  b_law : Binds K d_law ["script"] []
  u_LETTERS : Value
  g_LETTERS : mg "LETTERS" = some u_LETTERS
  r_LETTERS : RelV (.str "abcdefghijklmnopqrstuvwxyz") u_LETTERS
  u_DIGITS : Value
  g_DIGITS : mg "DIGITS" = some u_DIGITS
  r_DIGITS : RelV (.str "0123456789") u_DIGITS
  u_LONGEST_NAME : Value
  g_LONGEST_NAME : mg "LONGEST_NAME" = some u_LONGEST_NAME
  r_LONGEST_NAME : RelV (.int 12) u_LONGEST_NAME
  u_GREATEST_NUMBER : Value
  g_GREATEST_NUMBER : mg "GREATEST_NUMBER" = some u_GREATEST_NUMBER
  r_GREATEST_NUMBER : RelV (.int 999999) u_GREATEST_NUMBER
  u_LONGEST_NUMBER : Value
  g_LONGEST_NUMBER : mg "LONGEST_NUMBER" = some u_LONGEST_NUMBER
  r_LONGEST_NUMBER : RelV (.int 6) u_LONGEST_NUMBER
  u_MOST_FIELDS : Value
  g_MOST_FIELDS : mg "MOST_FIELDS" = some u_MOST_FIELDS
  r_MOST_FIELDS : RelV (.int 8) u_MOST_FIELDS
  u_LONGEST_FIELD : Value
  g_LONGEST_FIELD : mg "LONGEST_FIELD" = some u_LONGEST_FIELD
  r_LONGEST_FIELD : RelV (.int 40) u_LONGEST_FIELD
  u_MODULUS : Value
  g_MODULUS : mg "MODULUS" = some u_MODULUS
  r_MODULUS : RelV (.int 9973) u_MODULUS
  u_CHECK_DIGITS : Value
  g_CHECK_DIGITS : mg "CHECK_DIGITS" = some u_CHECK_DIGITS
  r_CHECK_DIGITS : RelV (.int 4) u_CHECK_DIGITS
  u_OTHER_PARTS : Value
  g_OTHER_PARTS : mg "OTHER_PARTS" = some u_OTHER_PARTS
  r_OTHER_PARTS : RelV (.int 5) u_OTHER_PARTS
  n_ValueError : mg "ValueError" = none
  n_all : mg "all" = none
  n_bool : mg "bool" = none
  n_enumerate : mg "enumerate" = none
  n_int : mg "int" = none
  n_isinstance : mg "isinstance" = none
  n_len : mg "len" = none
  n_list : mg "list" = none
  n_ord : mg "ord" = none
  n_range : mg "range" = none
  n_str : mg "str" = none
  n_sum : mg "sum" = none
  n_tuple : mg "tuple" = none
  kve : Kv.veAll K exa = true
  xh_badValue : Kv.exhAll K exa .badValue = true

local macro_rules | `(tactic| walk_at "rd") => `(tactic| try simp only [L2.start, tSeq, tIfS, tTest, tOp, tVar, tC, tRet, tRetN, tNext, tAsg, gName, tDrop, tCons, tNil, tCB, tB, rI0, rI, rEq, rNe, tAnd, tOr, tNot, tAndV, tOrV, tNotV, tIf, tUn, rU, Kv.sc_ii, Kv.sc_ss, Kv.sc_bb, Kv.sc_nn, Kv.sc_ni, Kv.sc_in, Kv.sc_sn, Kv.sc_ns, Kv.sc_bn, Kv.sc_nb, Kv.sc_is, Kv.sc_si, cxOf, and_assoc, rAppend, Kv.rIsP, L2H.cxH, tCall, tCallS, tTup, tLst, tBM, tBM0, tM0, tM1, tSl, tPart, tNoPart, tAug, ipI, gSub, tPar, tBreak, tCont, Kv.tKinds, tChain, tAugS, rIsB, rNotB, tYes, tCKw, wipe, List.foldl_cons, List.foldl_nil, iList, iTup, iRng1, iRng2, iEnum, iZip, Kv.tFor_eq, Kv.tLc_eq, Kv.sz_0, Kv.szl_0, Kv.sz_1, Kv.szl_1, Kv.sz_2, Kv.szl_2, Kv.sz_3, Kv.szl_3, Kv.sz_4, Kv.szl_4, Kv.sz_5, Kv.szl_5, Kv.sz_6, Kv.szl_6, Kv.sz_7, Kv.szl_7, Kv.sz_8, Kv.szl_8, Kv.sz_9, Kv.szl_9, Kv.sz_10, Kv.szl_10, Kv.sz_11, Kv.szl_11, Kv.sz_12, Kv.szl_12, Kv.sz_13, Kv.szl_13, Kv.sz_14, Kv.szl_14, Kv.sz_15, Kv.szl_15, Kv.sz_16, Kv.szl_16, Kv.sz_17, Kv.szl_17, Kv.sz_18, Kv.szl_18, Kv.sz_19, Kv.szl_19, Kv.sz_20, Kv.szl_20, Kv.sz_21, Kv.szl_21, Kv.sz_22, Kv.szl_22, Kv.sz_23, Kv.szl_23, Kv.sz_24, Kv.szl_24, Kv.sz_25, Kv.szl_25, Kv.sz_26, Kv.szl_26, Kv.cdiv_1, Kv.cdiv_2, Kv.cdiv_3, Kv.cdiv_4, Kv.cdiv_5, Kv.cdiv_6, Kv.cdiv_7, Kv.cdiv_8, Kv.cdiv_9, Kv.cdiv_10, Kv.cdiv_11, Kv.cdiv_12, Kv.cdiv_13, Kv.cdiv_14, Kv.cdiv_16, Kv.cdiv_20, Kv.cdiv_30, Kv.cdiv_50, Kv.cdiv_60, Kv.cdiv_64, Kv.cdiv_100, Kv.cdiv_400, Kv.cdiv_1000, Kv.cdiv_2000, Kv.cdiv_10000, Kv.cdiv_1000000,
  CPow, List.map_cons, List.map_nil, List.cons_append, List.nil_append, List.append_nil, List.length_cons, List.length_nil, List.replicate,
  List.getElem?_cons_zero, List.getElem?_cons_succ, List.set_cons_zero, List.set_cons_succ, Option.some.injEq, exists_eq_left', exists_eq_left, exists_eq_right, exists_eq_right', V.int.injEq, V.str.injEq, V.bl.injEq, V.ref.injEq, List.cons.injEq, exists_and_left, exists_and_right, and_true, true_and, and_self, false_and, and_false, or_false, false_or, exists_false, exists_const, reduceCtorEq, Nat.reduceSub, Nat.reduceAdd, Nat.reduceLeDiff, Nat.reduceLT,
  Int.reduceLT, Int.reduceLE, Int.reduceAdd, Int.reduceMul, Int.reduceSub, Int.reducePow, Int.reduceToNat, Int.reduceNeg, Int.reduceAbs, Nat.reducePow, decide_eq_true_eq, Bool.not_true, Bool.not_false, Bool.false_eq_true, ite_true, ite_false, if_true, if_false, decide_true, decide_false, Bool.not_eq_true', decide_eq_false_iff_not, not_true, not_false_eq_true, ne_eq])
local macro_rules | `(tactic| walk_at "st") => `(tactic| ((first | with_reducible refine Kv.seq_step fun U hU => ?_ | with_reducible refine Kv.gseq_step fun U hU => ?_); walk_at "rd"))
local macro_rules | `(tactic| walk_at "shp") => `(tactic| (refine Kv.shaped_of ?_ ?_ <;> (simp only [PyData.canLay0, PyData.canLayAll0, PyData.depth, PyData.depthAll, Bool.and_true, Bool.true_and]) <;> first | done | decide +kernel | omega))
local macro_rules | `(tactic| walk_at "eqv") => `(tactic| simp [PyData.eqv, PyData.eqvAll])
local macro_rules | `(tactic| walk_at "nx") => `(tactic| (subst_vars; (try dsimp only); first | walk_at "st" | walk_at "rd"))
section
variable {P : Program} {w : World} {K : PySem.W.Frag} {mg : Str → Option Value} {base : Heap}
abbrev cl0 : Str → Addr := fun _ => 0
theorem ok_L_errors (T : Txt K mg) : Kv.KindsOk P w K mg base T.toErrs 1 T.a__law_errors T.d__law_errors "e" := by
  refine Kv.kinds_of T.F__law_errors sc_L_errors (fun cdv A outer s H Q p er hz hf h => ?_)
  refine ⟨_, 
      (pss_cons (ps_set (i := 1) sc_L_errors.nd rfl (Or.inl rfl) (pe_lst pa_nil))
      (pss_cons (ps_if (pt_val (pe_callB (Kv.call_isP List.mem_cons_self (T.exc er) hz hf) (by rfl) T.n_isinstance (by decide +kernel) (pa_cons (pv 0) (pa_cons (pe_glob (v := .ref (T.exa .badDay)) (by rfl) (T.exg .badDay) rfl) pa_nil)))) 
        (pss_one (ps_expr (pe_bm PySem.F.plainAttrs_list PySem.F.slot_list_append PySem.F.type_list_append mt_append (pv 1) (pa_cons pe_str pa_nil)))) pss_nil)
      (pss_cons (ps_if (pt_val (pe_callB (Kv.call_isP List.mem_cons_self (T.exc er) hz hf) (by rfl) T.n_isinstance (by decide +kernel) (pa_cons (pv 0) (pa_cons (pe_glob (v := .ref (T.exa .badValue)) (by rfl) (T.exg .badValue) rfl) pa_nil)))) 
        (pss_one (ps_expr (pe_bm PySem.F.plainAttrs_list PySem.F.slot_list_append PySem.F.type_list_append mt_append (pv 1) (pa_cons pe_str pa_nil)))) pss_nil)
      (pss_cons (ps_if (pt_val (pe_callB (Kv.call_isP List.mem_cons_self (T.exc er) hz hf) (by rfl) T.n_isinstance (by decide +kernel) (pa_cons (pv 0) (pa_cons (pe_glob (v := .ref (T.exa .damaged)) (by rfl) (T.exg .damaged) rfl) pa_nil)))) 
        (pss_one (ps_expr (pe_bm PySem.F.plainAttrs_list PySem.F.slot_list_append PySem.F.type_list_append mt_append (pv 1) (pa_cons pe_str pa_nil)))) pss_nil)
      (pss_cons (ps_if (pt_val (pe_callB (Kv.call_isP List.mem_cons_self (T.exc er) hz hf) (by rfl) T.n_isinstance (by decide +kernel) (pa_cons (pv 0) (pa_cons (pe_glob (v := .ref (T.exa .full)) (by rfl) (T.exg .full) rfl) pa_nil)))) 
        (pss_one (ps_expr (pe_bm PySem.F.plainAttrs_list PySem.F.slot_list_append PySem.F.type_list_append mt_append (pv 1) (pa_cons pe_str pa_nil)))) pss_nil)
      (pss_cons (ps_if (pt_val (pe_callB (Kv.call_isP List.mem_cons_self (T.exc er) hz hf) (by rfl) T.n_isinstance (by decide +kernel) (pa_cons (pv 0) (pa_cons (pe_glob (v := .ref (T.exa .missing)) (by rfl) (T.exg .missing) rfl) pa_nil)))) 
        (pss_one (ps_expr (pe_bm PySem.F.plainAttrs_list PySem.F.slot_list_append PySem.F.type_list_append mt_append (pv 1) (pa_cons pe_str pa_nil)))) pss_nil)
      (pss_cons (ps_if (pt_val (pe_callB (Kv.call_isP List.mem_cons_self (T.exc er) hz hf) (by rfl) T.n_isinstance (by decide +kernel) (pa_cons (pv 0) (pa_cons (pe_glob (v := .ref (T.exa .notAllowed)) (by rfl) (T.exg .notAllowed) rfl) pa_nil)))) 
        (pss_one (ps_expr (pe_bm PySem.F.plainAttrs_list PySem.F.slot_list_append PySem.F.type_list_append mt_append (pv 1) (pa_cons pe_str pa_nil)))) pss_nil)
      (pss_cons (ps_if (pt_val (pe_callB (Kv.call_isP List.mem_cons_self (T.exc er) hz hf) (by rfl) T.n_isinstance (by decide +kernel) (pa_cons (pv 0) (pa_cons (pe_glob (v := .ref (T.exa .refused)) (by rfl) (T.exg .refused) rfl) pa_nil)))) 
        (pss_one (ps_expr (pe_bm PySem.F.plainAttrs_list PySem.F.slot_list_append PySem.F.type_list_append mt_append (pv 1) (pa_cons pe_str pa_nil)))) pss_nil)
      (pss_cons (ps_if (pt_not (pt_val (pe_callB (Kv.call_isPt List.mem_cons_self (T.exc er) hz hf) (by rfl) T.n_isinstance (by decide +kernel) (pa_cons (pv 0) (pa_cons (pe_bltn (v := .ty "ValueError") (by rfl) T.n_ValueError (by decide +kernel) rfl) pa_nil))))) 
        (pss_one (ps_expr (pe_bm PySem.F.plainAttrs_list PySem.F.slot_list_append PySem.F.type_list_append mt_append (pv 1) (pa_cons pe_str pa_nil)))) pss_nil)
      (pss_one (ps_ret (pv 1)))))))))))), ?_⟩
  have hi := fun d => T.exi er d
  have hv := Kv.ve_of T.kve er
  refine Kv.seq_step fun U hU => ?_
  walk_at "rd"
  intro l hl
  rw [hU]
  cases er
  all_goals
    iterate 7
      refine Kv.seq_step fun U hU => ?_
      walk_at "rd"
      refine ⟨_, hi _, ?_⟩
      first
        | rw [if_neg (by decide)]
        | (rw [if_pos (by decide)]
           refine ⟨.inl ⟨rfl, _, SqL.of upd_same⟩, _, upd_same, by decide, ?_⟩
           rw [upd_upd])
      rw [hU]
    refine Kv.seq_step fun U hU => ?_
    walk_at "rd"
    refine ⟨_, _, rfl, hv, ?_⟩
    walk_at "rd"
    rw [hU]
    walk_at "rd"
    exact h l hl

theorem ok_is_name (T : Txt K mg) : FnOk P w K mg base CX0 1 T.a_is_name T.d_is_name ["text"] (Mi.spM K cl0 T.exa 1 m_is_name) := by
  refine T.F_is_name.ok sc_is_name (fun vs H Q E h => h.1) (fun cdv A outer s H vs Q E hr h => ?_)
  refine Mi.fin0 (ex := T.exa) (X := E) (
      (pss_cons (ps_if (pt_not (pt_chain op_le op_le pe_int (pe_callB call_len_str (by rfl) T.n_len PySem.boot_len (pa_cons (pv 0) pa_nil)) (pe_glob (by rfl) T.g_LONGEST_NAME T.r_LONGEST_NAME))) 
        (pss_one (ps_ret pe_bl)) pss_nil)
      (pss_one (ps_ret (pe_and (pe_cmpR op_in_str (pe_ix ix_str (pv 0) pe_int (fun _ _ => rfl)) (pe_glob (by rfl) T.g_LETTERS T.r_LETTERS) (by rfl)) (pe_one (pe_callB (cr_all rfl) (by rfl) T.n_all (by decide +kernel) (pa_cons (pe_lc (own := [("sign", 1)]) (g := gName 1) (tt := tYes) rfl sc_is_name.nd (pi_str (pv 0)) (blkOk_by (N := ["text", "sign"]) (sc := defScope s_is_name) (by decide +kernel)) (fun _ _ _ _ _ => (pg_name (i := 1) sc_is_name.nd rfl (Or.inl rfl))) (fun _ _ _ _ _ => pts_nil) (fun _ _ _ _ _ => (pe_or (pe_cmpR op_in_str (pv 1) (pe_glob (by rfl) T.g_LETTERS T.r_LETTERS) (by rfl)) (pe_one (pe_cmpR op_in_str (pv 1) (pe_glob (by rfl) T.g_DIGITS T.r_DIGITS) (by rfl)))))) pa_nil)))))))) (fun xa => ?_) h
  exact (Mi.sS_seq (Mi.sS_if (Mi.sT_not (Mi.sT_B (Mi.sE_chain Mi.pk_le Mi.pk_le Mi.sE_c (Mi.sE_pkC Mi.pk_lenS (Mi.sA_cons Mi.sE_var Mi.sA_nil)) Mi.sE_c))) (Mi.sS_ret Mi.sE_c) Mi.sS_next) 
    (Mi.sS_ret (Mi.sE_and (Mi.sE_pk Mi.pk_inS (Mi.sE_pk Mi.pk_ixS Mi.sE_var Mi.sE_c) Mi.sE_c) (Mi.sE_pkC Mi.pk_all (Mi.sA_cons (Mi.sE_frz (Mi.sN_lc (vs := [1]) (Mi.sI_str Mi.sE_var) (Mi.sG_name (by decide)) Mi.sT_yes (Mi.sE_or (Mi.sE_pk Mi.pk_inS Mi.sE_var Mi.sE_c) (Mi.sE_pk Mi.pk_inS Mi.sE_var Mi.sE_c)))) Mi.sA_nil)))))
theorem ok_check_fields (T : Txt K mg) : FnOk P w K mg base (L2.CX P w) 1 T.a_check_fields T.d_check_fields ["fields"] (Mi.spM K cl0 T.exa 1 m_check_fields) := by
  refine T.F_check_fields.okX sc_check_fields (fun vs H Q E h => h.1) (fun cdv A outer s H vs Q E hr h => ?_)
  refine Mi.finX (ex := T.exa) (X := E) (
      (pss_cons (ps_if (pt_cmpR op_gt (pe_callB call_len_seq (by rfl) T.n_len PySem.boot_len (pa_cons (pv 0) pa_nil)) (pe_glob (by rfl) T.g_MOST_FIELDS T.r_MOST_FIELDS) (nomark _)) 
        (pss_one (ps_raise rfl (takes_of rfl rfl rfl rfl) (pmk_own PySem.F.excBase_ValueError (T.exx .badValue) (T.exg .badValue) (T.exk .badValue) (raises_own (T.exb .badValue) (T.ext .badValue)) (by rfl)))) pss_nil)
      (pss_one (ps_for (passes_of rfl) rfl (pi_list (pv 0)) (pg_name (i := 1) sc_check_fields.nd rfl (Or.inl rfl)) 
        (pss_one (ps_if (PW.pt (pw_or (pt_cmpR op_gt (pe_callB call_len_str (by rfl) T.n_len PySem.boot_len (pa_cons (pv 1) pa_nil)) (pe_glob (by rfl) T.g_LONGEST_FIELD T.r_LONGEST_FIELD) (nomark _)) (pw_or1 (pt_cmpR op_in_str pe_str (pv 1) (by rfl))))) 
          (pss_one (ps_raise rfl (takes_of rfl rfl rfl rfl) (pmk_own PySem.F.excBase_ValueError (T.exx .badValue) (T.exg .badValue) (T.exk .badValue) (raises_own (T.exb .badValue) (T.ext .badValue)) (by rfl)))) pss_nil)))))) (fun xa => ?_) h
  exact (Mi.sS_seq (Mi.sS_if (Mi.sT_test (Mi.sE_pk Mi.pk_gt (Mi.sE_pkC Mi.pk_lenQ (Mi.sA_cons Mi.sE_var Mi.sA_nil)) Mi.sE_c)) (Mi.sS_raise (fun _ _ _ h => h)) Mi.sS_next) 
    (Mi.sS_for (vs := [1]) (Mi.sI_list Mi.sE_var) (Mi.sG_name (by decide)) (Mi.sS_if (Mi.sT_or (Mi.sT_test (Mi.sE_pk Mi.pk_gt (Mi.sE_pkC Mi.pk_lenS (Mi.sA_cons Mi.sE_var Mi.sA_nil)) Mi.sE_c)) (Mi.sT_test (Mi.sE_pk Mi.pk_inS Mi.sE_c Mi.sE_var))) (Mi.sS_raise (fun _ _ _ h => h)) Mi.sS_next)))
theorem ok_check_digits_of (T : Txt K mg) : FnOk P w K mg base CX0 1 T.a_check_digits_of T.d_check_digits_of ["body"] (Mi.spM K cl0 T.exa 1 m_check_digits_of) := by
  refine T.F_check_digits_of.ok sc_check_digits_of (fun vs H Q E h => h.1) (fun cdv A outer s H vs Q E hr h => ?_)
  refine Mi.fin0 (ex := T.exa) (X := E) (
      (pss_cons (ps_set (i := 1) sc_check_digits_of.nd rfl (Or.inl rfl) (pe_callB (cr_sum rfl) (by rfl) T.n_sum (by decide +kernel) (pa_cons (pe_lc (own := [("place", 2), ("sign", 3)]) (g := gTup K 2 (gCons (gName 2) (gCons (gName 3) gNil))) (tt := tYes) rfl sc_check_digits_of.nd (Mi.pi_enumS (by rfl) T.n_enumerate (pa_cons (pv 0) (pa_cons pe_int pa_nil))) (blkOk_by (N := ["body", "total", "place", "sign"]) (sc := defScope s_check_digits_of) (by decide +kernel)) (fun _ _ _ _ _ => (pg_tup (n := 2) (by rfl) (pgs_cons (pg_name (i := 2) sc_check_digits_of.nd rfl (Or.inl rfl)) (pgs_cons (pg_name (i := 3) sc_check_digits_of.nd rfl (Or.inl rfl)) pgs_nil)))) (fun _ _ _ _ _ => pts_nil) (fun _ _ _ _ _ => (pe_op op_mulX (pv 2) (pe_callB call_ord (by rfl) T.n_ord (by decide +kernel) (pa_cons (pv 3) pa_nil))))) pa_nil)))
      (pss_one (ps_ret (pe_bm PySem.F.plainAttrs_str PySem.F.slot_str_zfill PySem.F.type_str_zfill mt_zfill (pe_callTy call_str_int (by rfl) T.n_str (by decide +kernel) (pa_cons (pe_op op_mod (pv 1) (pe_glob (by rfl) T.g_MODULUS T.r_MODULUS)) pa_nil)) (pa_cons (pe_glob (by rfl) T.g_CHECK_DIGITS T.r_CHECK_DIGITS) pa_nil)))))) (fun xa => ?_) h
  exact (Mi.sS_seq (Mi.sS_asg (vs := [1]) (Mi.sE_pkC Mi.pk_sum (Mi.sA_cons (Mi.sE_frz (Mi.sN_lc (vs := [2, 3]) (Mi.sI_enumS (Mi.sA_cons Mi.sE_var (Mi.sA_cons Mi.sE_c Mi.sA_nil))) (Mi.sG_tup (Mi.sGs_cons (Mi.sG_name (by decide)) (Mi.sGs_cons (Mi.sG_name (by decide)) Mi.sGs_nil))) Mi.sT_yes (Mi.sE_pk Mi.pk_mul Mi.sE_var (Mi.sE_pkC Mi.pk_ord (Mi.sA_cons Mi.sE_var Mi.sA_nil))))) Mi.sA_nil)) (Mi.sG_name (by decide))) 
    (Mi.sS_ret (Mi.sE_tBM Mi.pk_zfill (Mi.sE_pkC Mi.pk_strI (Mi.sA_cons (Mi.sE_pk Mi.pk_mod Mi.sE_var Mi.sE_c) Mi.sA_nil)) Mi.sE_c)))
theorem ok_L_cell (T : Txt K mg) : FnOk P w K mg base CX0 1 T.a__law_cell T.d__law_cell ["script", "k"] (Mi.spM K cl0 T.exa 2 m_L_cell) := by
  refine T.F__law_cell.ok sc_L_cell (fun vs H Q E h => h.1) (fun cdv A outer s H vs Q E hr h => ?_)
  refine Mi.fin0 (ex := T.exa) (X := E) (
      (pss_cons (ps_if (pt_cmpR op_lt (pv 1) (pe_callB call_len_seq (by rfl) T.n_len PySem.boot_len (pa_cons (pv 0) pa_nil)) (nomark _)) 
        (pss_one (ps_ret (pe_ix ix_list (pv 0) (pv 1) (fun _ _ => rfl)))) pss_nil)
      (pss_one (ps_ret pe_int)))) (fun xa => ?_) h
  exact (Mi.sS_seq (Mi.sS_if (Mi.sT_test (Mi.sE_pk Mi.pk_lt Mi.sE_var (Mi.sE_pkC Mi.pk_lenQ (Mi.sA_cons Mi.sE_var Mi.sA_nil)))) (Mi.sS_ret (Mi.sE_pk Mi.pk_ixL Mi.sE_var Mi.sE_var)) Mi.sS_next) 
    (Mi.sS_ret Mi.sE_c))
theorem ok_L_source (T : Txt K mg) : FnOk P w K mg base CX0 1 T.a__law_source T.d__law_source ["cell", "k"] (Mi.spM K cl0 T.exa 2 m_L_source) := by
  refine T.F__law_source.ok sc_L_source (fun vs H Q E h => h.1) (fun cdv A outer s H vs Q E hr h => ?_)
  refine Mi.fin0 (ex := T.exa) (X := E) (
      (pss_cons (ps_if (pt_cmpR op_ge (pv 0) (pe_op op_pow pe_int pe_int) (nomark _)) 
        (pss_one (ps_ret (pe_lst (pa_cons (pe_op op_sub (pv 0) (pe_op op_pow pe_int pe_int)) (pa_cons (pe_op op_add (pv 1) pe_int) pa_nil))))) pss_nil)
      (pss_one (ps_ret (pe_lst (pa_cons pe_int (pa_cons (pe_op op_mod (pe_callTy call_int1 (by rfl) T.n_int (by decide +kernel) (pa_cons (pe_op op_add (pe_op op_add (pe_op op_mulX (pv 0) pe_int) (pe_op op_mulX (pv 1) pe_int)) pe_int) pa_nil)) pe_int) pa_nil))))))) (fun xa => ?_) h
  exact (Mi.sS_seq (Mi.sS_if (Mi.sT_test (Mi.sE_pk Mi.pk_ge Mi.sE_var (Mi.sE_pk Mi.pk_pow Mi.sE_c Mi.sE_c))) (Mi.sS_retX (Mi.sN_lst (Mi.sA_cons (Mi.sE_d (Mi.sE_pk Mi.pk_sub Mi.sE_var (Mi.sE_pk Mi.pk_pow Mi.sE_c Mi.sE_c))) (Mi.sA_cons (Mi.sE_d (Mi.sE_pk Mi.pk_add Mi.sE_var Mi.sE_c)) Mi.sA_nil)))) Mi.sS_next) 
    (Mi.sS_retX (Mi.sN_lst (Mi.sA_cons Mi.sE_c (Mi.sA_cons (Mi.sE_d (Mi.sE_pk Mi.pk_mod (Mi.sE_pkC Mi.pk_int1 (Mi.sA_cons (Mi.sE_pk Mi.pk_add (Mi.sE_pk Mi.pk_add (Mi.sE_pk Mi.pk_mul Mi.sE_var Mi.sE_c) (Mi.sE_pk Mi.pk_mul Mi.sE_var Mi.sE_c)) Mi.sE_c) Mi.sA_nil)) Mi.sE_c)) Mi.sA_nil)))))
theorem ok_L_pick (T : Txt K mg) : FnOk P w K mg base CX0 1 T.a__law_pick T.d__law_pick ["source", "many"] (Mi.spM K cl0 T.exa 2 m_L_pick) := by
  refine T.F__law_pick.ok sc_L_pick (fun vs H Q E h => h.1) (fun cdv A outer s H vs Q E hr h => ?_)
  refine Mi.fin0 (ex := T.exa) (X := E) (
      (pss_cons (ps_if (pt_cmpR op_gt (pe_ix ix_list (pv 0) pe_int (fun _ _ => rfl)) pe_int (nomark _)) 
        (pss_cons (ps_set (i := 2) sc_L_pick.nd rfl (Or.inl rfl) (pe_op op_mod (pe_callTy call_int1 (by rfl) T.n_int (by decide +kernel) (pa_cons (pe_ix ix_list (pv 0) pe_int (fun _ _ => rfl)) pa_nil)) (pv 1)))
        (pss_cons (ps_asg (pe_op op_fdivW (pe_ix ix_list (pv 0) pe_int (fun _ _ => rfl)) (pv 1)) (pg_sub (pv 0) pe_int set_list))
        (pss_one (ps_ret (pv 2))))) pss_nil)
      (pss_cons (ps_asg (pe_op op_mod (pe_callTy call_int1 (by rfl) T.n_int (by decide +kernel) (pa_cons (pe_op op_add (pe_op op_mulX (pe_ix ix_list (pv 0) pe_int (fun _ _ => rfl)) pe_int) pe_int) pa_nil)) pe_int) (pg_sub (pv 0) pe_int set_list))
      (pss_cons (ps_set (i := 3) sc_L_pick.nd rfl (Or.inl rfl) (pe_op op_mod (pe_callTy call_int1 (by rfl) T.n_int (by decide +kernel) (pa_cons (pe_op op_add (pe_op op_add (pe_op op_mulX (pe_ix ix_list (pv 0) pe_int (fun _ _ => rfl)) pe_int) (pe_op op_fdivW (pe_ix ix_list (pv 0) pe_int (fun _ _ => rfl)) pe_int)) pe_int) pa_nil)) pe_int))
      (pss_one (ps_ret (pe_op op_mod (pe_callTy call_int1 (by rfl) T.n_int (by decide +kernel) (pa_cons (pe_op op_fdivW (pv 3) pe_int) pa_nil)) (pv 1)))))))) (fun xa => ?_) h
  exact (Mi.sS_seq (Mi.sS_if (Mi.sT_test (Mi.sE_pk Mi.pk_gt (Mi.sE_pk Mi.pk_ixL Mi.sE_var Mi.sE_c) Mi.sE_c)) (Mi.sS_seq (Mi.sS_asg (vs := [2]) (Mi.sE_pk Mi.pk_mod (Mi.sE_pkC Mi.pk_int1 (Mi.sA_cons (Mi.sE_pk Mi.pk_ixL Mi.sE_var Mi.sE_c) Mi.sA_nil)) Mi.sE_var) (Mi.sG_name (by decide))) 
      (Mi.sS_seq (Mi.sS_asg (vs := []) (Mi.sE_d (Mi.sE_pk Mi.pk_div (Mi.sE_pk Mi.pk_ixL Mi.sE_var Mi.sE_c) Mi.sE_var)) (Mi.sG_sub Mi.sE_var Mi.sE_c)) 
      (Mi.sS_ret Mi.sE_var))) Mi.sS_next) 
    (Mi.sS_seq (Mi.sS_asg (vs := []) (Mi.sE_d (Mi.sE_pk Mi.pk_mod (Mi.sE_pkC Mi.pk_int1 (Mi.sA_cons (Mi.sE_pk Mi.pk_add (Mi.sE_pk Mi.pk_mul (Mi.sE_pk Mi.pk_ixL Mi.sE_var Mi.sE_c) Mi.sE_c) Mi.sE_c) Mi.sA_nil)) Mi.sE_c)) (Mi.sG_sub Mi.sE_var Mi.sE_c)) 
    (Mi.sS_seq (Mi.sS_asg (vs := [3]) (Mi.sE_pk Mi.pk_mod (Mi.sE_pkC Mi.pk_int1 (Mi.sA_cons (Mi.sE_pk Mi.pk_add (Mi.sE_pk Mi.pk_add (Mi.sE_pk Mi.pk_mul (Mi.sE_pk Mi.pk_ixL Mi.sE_var Mi.sE_c) Mi.sE_c) (Mi.sE_pk Mi.pk_div (Mi.sE_pk Mi.pk_ixL Mi.sE_var Mi.sE_c) Mi.sE_c)) Mi.sE_c) Mi.sA_nil)) Mi.sE_c) (Mi.sG_name (by decide))) 
    (Mi.sS_ret (Mi.sE_pk Mi.pk_mod (Mi.sE_pkC Mi.pk_int1 (Mi.sA_cons (Mi.sE_pk Mi.pk_div Mi.sE_var Mi.sE_c) Mi.sA_nil)) Mi.sE_var)))))
theorem ok_L_check (T : Txt K mg) : FnOk P w K mg base CX0 1 T.a__law_check T.d__law_check ["body"] (Mi.spM K cl0 T.exa 1 m_L_check) := by
  refine T.F__law_check.ok sc_L_check (fun vs H Q E h => h.1) (fun cdv A outer s H vs Q E hr h => ?_)
  refine Mi.fin0 (ex := T.exa) (X := E) (
      (pss_cons (ps_set (i := 1) sc_L_check.nd rfl (Or.inl rfl) pe_int)
      (pss_cons (ps_for PassesOwn.never rfl (pi_range1 (by rfl) T.n_range (pa_cons (pe_callB call_len_str (by rfl) T.n_len PySem.boot_len (pa_cons (pv 0) pa_nil)) pa_nil)) (pg_name (i := 2) sc_L_check.nd rfl (Or.inl rfl)) 
        (pss_one (ps_set (i := 1) sc_L_check.nd rfl (Or.inl rfl) (pe_op op_add (pv 1) (pe_op op_mulX (pe_op op_add (pv 2) pe_int) (pe_callB call_ord (by rfl) T.n_ord (by decide +kernel) (pa_cons (pe_ix ix_str (pv 0) (pv 2) (fun _ _ => rfl)) pa_nil)))))))
      (pss_cons (ps_set (i := 3) sc_L_check.nd rfl (Or.inl rfl) (pe_callTy call_str_int (by rfl) T.n_str (by decide +kernel) (pa_cons (pe_op op_mod (pe_callTy call_int1 (by rfl) T.n_int (by decide +kernel) (pa_cons (pv 1) pa_nil)) pe_int) pa_nil)))
      (pss_one (ps_ret (pe_op op_add_str (pe_op Mi.op_mulS pe_str (pe_op op_sub pe_int (pe_callB call_len_str (by rfl) T.n_len PySem.boot_len (pa_cons (pv 3) pa_nil)))) (pv 3)))))))) (fun xa => ?_) h
  exact (Mi.sS_seq (Mi.sS_asg (vs := [1]) Mi.sE_c (Mi.sG_name (by decide))) 
    (Mi.sS_seq (Mi.sS_for (vs := [2]) (Mi.sI_rng1 (Mi.sA_cons (Mi.sE_pkC Mi.pk_lenS (Mi.sA_cons Mi.sE_var Mi.sA_nil)) Mi.sA_nil)) (Mi.sG_name (by decide)) (Mi.sS_asg (vs := [1]) (Mi.sE_pk Mi.pk_add Mi.sE_var (Mi.sE_pk Mi.pk_mul (Mi.sE_pk Mi.pk_add Mi.sE_var Mi.sE_c) (Mi.sE_pkC Mi.pk_ord (Mi.sA_cons (Mi.sE_pk Mi.pk_ixS Mi.sE_var Mi.sE_var) Mi.sA_nil)))) (Mi.sG_name (by decide)))) 
    (Mi.sS_seq (Mi.sS_asg (vs := [3]) (Mi.sE_pkC Mi.pk_strI (Mi.sA_cons (Mi.sE_pk Mi.pk_mod (Mi.sE_pkC Mi.pk_int1 (Mi.sA_cons Mi.sE_var Mi.sA_nil)) Mi.sE_c) Mi.sA_nil)) (Mi.sG_name (by decide))) 
    (Mi.sS_ret (Mi.sE_pk Mi.pk_cat (Mi.sE_pk Mi.pk_mulS Mi.sE_c (Mi.sE_pk Mi.pk_sub Mi.sE_c (Mi.sE_pkC Mi.pk_lenS (Mi.sA_cons Mi.sE_var Mi.sA_nil)))) Mi.sE_var)))))
theorem ok_L_is_letter (T : Txt K mg) : FnOk P w K mg base CX0 1 T.a__law_is_letter T.d__law_is_letter ["actual", "expected"] (Mi.spM K cl0 T.exa 2 m_L_is_letter) := by
  refine T.F__law_is_letter.ok sc_L_is_letter (fun vs H Q E h => h.1) (fun cdv A outer s H vs Q E hr h => ?_)
  refine Mi.fin0 (ex := T.exa) (X := E) (
      (pss_cons (ps_if (PW.pt (pw_or (pt_not (pt_val (pe_callB call_isi (by rfl) T.n_isinstance (by decide +kernel) (pa_cons (pv 0) (pa_cons (pe_bltn (v := .ty "tuple") (by rfl) T.n_tuple (by decide +kernel) rfl) pa_nil))))) (pw_or1 (pt_cmpR op_ne (pe_callB call_len_seq (by rfl) T.n_len PySem.boot_len (pa_cons (pv 0) pa_nil)) pe_int (nomark _))))) 
        (pss_one (ps_ret pe_bl)) pss_nil)
      (pss_cons (ps_for PassesOwn.never rfl (pi_range1 (by rfl) T.n_range (pa_cons pe_int pa_nil)) (pg_name (i := 2) sc_L_is_letter.nd rfl (Or.inl rfl)) 
        (pss_one (ps_if (PW.pt (pw_or (pt_not (pt_val (pe_callB call_isi (by rfl) T.n_isinstance (by decide +kernel) (pa_cons (pe_ix ix_tup (pv 0) (pv 2) (fun _ _ => rfl)) (pa_cons (pe_bltn (v := .ty "str") (by rfl) T.n_str (by decide +kernel) rfl) pa_nil))))) (pw_or1 (pt_cmpR op_ne (pe_ix ix_tup (pv 0) (pv 2) (fun _ _ => rfl)) (pe_ix ix_tup (pv 1) (pv 2) (fun _ _ => rfl)) (nomark _))))) 
          (pss_one (ps_ret pe_bl)) pss_nil)))
      (pss_cons (ps_if (PW.pt (pw_or (pt_not (pt_val (pe_callB call_isi (by rfl) T.n_isinstance (by decide +kernel) (pa_cons (pe_ix ix_tup (pv 0) pe_int (fun _ _ => rfl)) (pa_cons (pe_bltn (v := .ty "int") (by rfl) T.n_int (by decide +kernel) rfl) pa_nil))))) (pw_or (pt_val (pe_callB call_isi (by rfl) T.n_isinstance (by decide +kernel) (pa_cons (pe_ix ix_tup (pv 0) pe_int (fun _ _ => rfl)) (pa_cons (pe_bltn (v := .ty "bool") (by rfl) T.n_bool (by decide +kernel) rfl) pa_nil)))) (pw_or1 (pt_cmpR op_ne (pe_ix ix_tup (pv 0) pe_int (fun _ _ => rfl)) (pe_ix ix_tup (pv 1) pe_int (fun _ _ => rfl)) (nomark _)))))) 
        (pss_one (ps_ret pe_bl)) pss_nil)
      (pss_one (ps_ret (pe_and (pe_callB call_isi (by rfl) T.n_isinstance (by decide +kernel) (pa_cons (pe_ix ix_tup (pv 0) pe_int (fun _ _ => rfl)) (pa_cons (pe_bltn (v := .ty "list") (by rfl) T.n_list (by decide +kernel) rfl) pa_nil))) (pe_one (pe_cmpR (op_eqD hr.units) (pe_ix ix_tup (pv 0) pe_int (fun _ _ => rfl)) (pe_ix ix_tup (pv 1) pe_int (fun _ _ => rfl)) (nomark _)))))))))) (fun xa => ?_) h
  exact (Mi.sS_seq (Mi.sS_if (Mi.sT_or (Mi.sT_not (Mi.sT_B (Mi.sE_pkC Mi.pk_isi (Mi.sA_cons Mi.sE_var (Mi.sA_cons Mi.sE_c Mi.sA_nil))))) (Mi.sT_test (Mi.sE_pk Mi.pk_ne (Mi.sE_pkC Mi.pk_lenQ (Mi.sA_cons Mi.sE_var Mi.sA_nil)) Mi.sE_c))) (Mi.sS_ret Mi.sE_c) Mi.sS_next) 
    (Mi.sS_seq (Mi.sS_for (vs := [2]) (Mi.sI_rng1 (Mi.sA_cons Mi.sE_c Mi.sA_nil)) (Mi.sG_name (by decide)) (Mi.sS_if (Mi.sT_or (Mi.sT_not (Mi.sT_B (Mi.sE_pkC Mi.pk_isi (Mi.sA_cons (Mi.sE_pk Mi.pk_ixT Mi.sE_var Mi.sE_var) (Mi.sA_cons Mi.sE_c Mi.sA_nil))))) (Mi.sT_test (Mi.sE_pk Mi.pk_ne (Mi.sE_pk Mi.pk_ixT Mi.sE_var Mi.sE_var) (Mi.sE_pk Mi.pk_ixT Mi.sE_var Mi.sE_var)))) (Mi.sS_ret Mi.sE_c) Mi.sS_next)) 
    (Mi.sS_seq (Mi.sS_if (Mi.sT_or (Mi.sT_not (Mi.sT_B (Mi.sE_pkC Mi.pk_isi (Mi.sA_cons (Mi.sE_pk Mi.pk_ixT Mi.sE_var Mi.sE_c) (Mi.sA_cons Mi.sE_c Mi.sA_nil))))) (Mi.sT_or (Mi.sT_B (Mi.sE_pkC Mi.pk_isi (Mi.sA_cons (Mi.sE_pk Mi.pk_ixT Mi.sE_var Mi.sE_c) (Mi.sA_cons Mi.sE_c Mi.sA_nil)))) (Mi.sT_test (Mi.sE_pk Mi.pk_ne (Mi.sE_pk Mi.pk_ixT Mi.sE_var Mi.sE_c) (Mi.sE_pk Mi.pk_ixT Mi.sE_var Mi.sE_c))))) (Mi.sS_ret Mi.sE_c) Mi.sS_next) 
    (Mi.sS_ret (Mi.sE_and (Mi.sE_pkC Mi.pk_isi (Mi.sA_cons (Mi.sE_pk Mi.pk_ixT Mi.sE_var Mi.sE_c) (Mi.sA_cons Mi.sE_c Mi.sA_nil))) (Mi.sE_pk Mi.pk_eqD (Mi.sE_pk Mi.pk_ixT Mi.sE_var Mi.sE_c) (Mi.sE_pk Mi.pk_ixT Mi.sE_var Mi.sE_c)))))))
theorem ok_check_name (T : Txt K mg) : FnOk P w K mg base (L2.CX P w) 2 T.a_check_name T.d_check_name ["text"] (Mi.spM K cl0 T.exa 1 m_check_name) := by
  refine T.F_check_name.okX sc_check_name (fun vs H Q E h => h.1) (fun cdv A outer s H vs Q E hr h => ?_)
  refine Mi.finX (ex := T.exa) (X := E) (
      (pss_one (ps_if (pt_not (pt_val (pe_call (ok_is_name T) (hr.mono (by decide : 1 ≤ _)) (by rfl) T.g_is_name T.F_is_name.kp T.b_is_name .nil pass0 (pa_cons (pv 0) pa_nil)))) 
        (pss_one (ps_raise rfl (takes_of rfl rfl rfl rfl) (pmk_own PySem.F.excBase_ValueError (T.exx .badValue) (T.exg .badValue) (T.exk .badValue) (raises_own (T.exb .badValue) (T.ext .badValue)) (by rfl)))) pss_nil))) (fun xa => ?_) h
  exact (Mi.sS_if (Mi.sT_not (Mi.sT_B (Mi.sE_call (fun _ _ _ h _ => (Mi.hE0 h).elim) (Mi.sA_cons (Mi.sE_d Mi.sE_var) Mi.sA_nil)))) (Mi.sS_raise (fun _ _ _ h => h)) Mi.sS_next)
theorem ok_L_name (T : Txt K mg) : FnOk P w K mg base CX0 2 T.a__law_name T.d__law_name ["source"] (Mi.spM K cl0 T.exa 1 m_L_name) := by
  refine T.F__law_name.ok sc_L_name (fun vs H Q E h => h.1) (fun cdv A outer s H vs Q E hr h => ?_)
  refine Mi.fin0 (ex := T.exa) (X := E) (
      (pss_cons (ps_set (i := 1) sc_L_name.nd rfl (Or.inl rfl) pe_str)
      (pss_cons (ps_set (i := 2) sc_L_name.nd rfl (Or.inl rfl) (pe_ix ix_str (pv 1) (pe_call (ok_L_pick T) (hr.mono (by decide : 1 ≤ _)) (by rfl) T.g__law_pick T.F__law_pick.kp T.b__law_pick .nil pass0 (pa_cons (pv 0) (pa_cons pe_int pa_nil))) (fun _ _ => rfl)))
      (pss_cons (ps_for PassesOwn.never rfl (pi_range1 (by rfl) T.n_range (pa_cons (pe_call (ok_L_pick T) (hr.mono (by decide : 1 ≤ _)) (by rfl) T.g__law_pick T.F__law_pick.kp T.b__law_pick .nil pass0 (pa_cons (pv 0) (pa_cons pe_int pa_nil))) pa_nil)) (pg_name (i := 3) sc_L_name.nd rfl (Or.inl rfl)) 
        (pss_one (ps_set (i := 2) sc_L_name.nd rfl (Or.inl rfl) (pe_op op_add_str (pv 2) (pe_ix ix_str (pv 1) (pe_call (ok_L_pick T) (hr.mono (by decide : 1 ≤ _)) (by rfl) T.g__law_pick T.F__law_pick.kp T.b__law_pick .nil pass0 (pa_cons (pv 0) (pa_cons pe_int pa_nil))) (fun _ _ => rfl))))))
      (pss_one (ps_ret (pv 2))))))) (fun xa => ?_) h
  exact (Mi.sS_seq (Mi.sS_asg (vs := [1]) Mi.sE_c (Mi.sG_name (by decide))) 
    (Mi.sS_seq (Mi.sS_asg (vs := [2]) (Mi.sE_pk Mi.pk_ixS Mi.sE_var (Mi.sE_call (fun _ _ _ h _ => (Mi.hE0 h).elim) (Mi.sA_cons Mi.sE_var (Mi.sA_cons Mi.sE_c Mi.sA_nil)))) (Mi.sG_name (by decide))) 
    (Mi.sS_seq (Mi.sS_for (vs := [3]) (Mi.sI_rng1 (Mi.sA_cons (Mi.sE_call (fun _ _ _ h _ => (Mi.hE0 h).elim) (Mi.sA_cons Mi.sE_var (Mi.sA_cons Mi.sE_c Mi.sA_nil))) Mi.sA_nil)) (Mi.sG_name (by decide)) (Mi.sS_asg (vs := [2]) (Mi.sE_pk Mi.pk_cat Mi.sE_var (Mi.sE_pk Mi.pk_ixS Mi.sE_var (Mi.sE_call (fun _ _ _ h _ => (Mi.hE0 h).elim) (Mi.sA_cons Mi.sE_var (Mi.sA_cons Mi.sE_c Mi.sA_nil))))) (Mi.sG_name (by decide)))) 
    (Mi.sS_ret Mi.sE_var))))
theorem ok_L_text (T : Txt K mg) : FnOk P w K mg base CX0 2 T.a__law_text T.d__law_text ["source", "most"] (Mi.spM K cl0 T.exa 2 m_L_text) := by
  refine T.F__law_text.ok sc_L_text (fun vs H Q E h => h.1) (fun cdv A outer s H vs Q E hr h => ?_)
  refine Mi.fin0 (ex := T.exa) (X := E) (
      (pss_cons (ps_set (i := 2) sc_L_text.nd rfl (Or.inr rfl) pe_str)
      (pss_cons (ps_set (i := 2) sc_L_text.nd rfl (Or.inr rfl) (pe_op op_add_str (pv 2) pe_str))
      (pss_cons (ps_set (i := 3) sc_L_text.nd rfl (Or.inl rfl) (pe_call (ok_L_pick T) (hr.mono (by decide : 1 ≤ _)) (by rfl) T.g__law_pick T.F__law_pick.kp T.b__law_pick .nil pass0 (pa_cons (pv 0) (pa_cons pe_int pa_nil))))
      (pss_cons (ps_if (pt_cmpR op_eq (pv 3) pe_int (nomark _)) 
        (pss_one (ps_set (i := 3) sc_L_text.nd rfl (Or.inl rfl) (pe_call (ok_L_pick T) (hr.mono (by decide : 1 ≤ _)) (by rfl) T.g__law_pick T.F__law_pick.kp T.b__law_pick .nil pass0 (pa_cons (pv 0) (pa_cons (pe_op op_add (pv 1) pe_int) pa_nil))))) pss_nil)
      (pss_one (ps_ret (pe_join pe_str (pe_lc (own := [("k", 4)]) (g := gName 4) (tt := tYes) rfl sc_L_text.nd (pi_range1 (by rfl) T.n_range (pa_cons (pv 3) pa_nil)) (blkOk_by (N := ["source", "most", "signs", "size", "k"]) (sc := defScope s_L_text) (by decide +kernel)) (fun _ _ _ _ _ => (pg_name (i := 4) sc_L_text.nd rfl (Or.inl rfl))) (fun _ _ _ _ _ => pts_nil) (fun _ _ _ _ _ => (pe_ix ix_str (pv 2) (pe_call (ok_L_pick T) (hr.mono (by decide : 1 ≤ _)) (by rfl) T.g__law_pick T.F__law_pick.kp T.b__law_pick .nil pass0 (pa_cons (pv 0) (pa_cons (pe_callB call_len_str (by rfl) T.n_len PySem.boot_len (pa_cons (pv 2) pa_nil)) pa_nil))) (fun _ _ => rfl)))))))))))) (fun xa => ?_) h
  exact (Mi.sS_seq (Mi.sS_asg (vs := [2]) Mi.sE_c (Mi.sG_name (by decide))) 
    (Mi.sS_seq (Mi.sS_asg (vs := [2]) (Mi.sE_pk Mi.pk_cat Mi.sE_var Mi.sE_c) (Mi.sG_name (by decide))) 
    (Mi.sS_seq (Mi.sS_asg (vs := [3]) (Mi.sE_call (fun _ _ _ h _ => (Mi.hE0 h).elim) (Mi.sA_cons Mi.sE_var (Mi.sA_cons Mi.sE_c Mi.sA_nil))) (Mi.sG_name (by decide))) 
    (Mi.sS_seq (Mi.sS_if (Mi.sT_test (Mi.sE_pk Mi.pk_eq Mi.sE_var Mi.sE_c)) (Mi.sS_asg (vs := [3]) (Mi.sE_call (fun _ _ _ h _ => (Mi.hE0 h).elim) (Mi.sA_cons Mi.sE_var (Mi.sA_cons (Mi.sE_d (Mi.sE_pk Mi.pk_add Mi.sE_var Mi.sE_c)) Mi.sA_nil))) (Mi.sG_name (by decide))) Mi.sS_next) 
    (Mi.sS_ret (Mi.sE_tM1 Mi.pk_join Mi.sE_c (Mi.sE_frz (Mi.sN_lc (vs := [4]) (Mi.sI_rng1 (Mi.sA_cons Mi.sE_var Mi.sA_nil)) (Mi.sG_name (by decide)) Mi.sT_yes (Mi.sE_pk Mi.pk_ixS Mi.sE_var (Mi.sE_call (fun _ _ _ h _ => (Mi.hE0 h).elim) (Mi.sA_cons Mi.sE_var (Mi.sA_cons (Mi.sE_d (Mi.sE_pkC Mi.pk_lenS (Mi.sA_cons Mi.sE_var Mi.sA_nil))) Mi.sA_nil))))))))))))
theorem ok_L_written (T : Txt K mg) : FnOk P w K mg base CX0 2 T.a__law_written T.d__law_written ["kind", "sender", "receiver", "digits", "fields"] (Mi.spM K cl0 T.exa 5 m_L_written) := by
  refine T.F__law_written.ok sc_L_written (fun vs H Q E h => h.1) (fun cdv A outer s H vs Q E hr h => ?_)
  refine Mi.fin0 (ex := T.exa) (X := E) (
      (pss_cons (ps_set (i := 5) sc_L_written.nd rfl (Or.inl rfl) (pe_op op_add_str (pe_join pe_str (pe_op Kv.op_catS (pe_lst (pa_cons (pv 0) (pa_cons (pv 1) (pa_cons (pv 2) (pa_cons (pv 3) pa_nil))))) (pv 4))) pe_str))
      (pss_one (ps_ret (pe_op op_add_str (pv 5) (pe_call (ok_L_check T) (hr.mono (by decide : 1 ≤ _)) (by rfl) T.g__law_check T.F__law_check.kp T.b__law_check .nil pass0 (pa_cons (pv 5) pa_nil))))))) (fun xa => ?_) h
  exact (Mi.sS_seq (Mi.sS_asg (vs := [5]) (Mi.sE_pk Mi.pk_cat (Mi.sE_tM1 Mi.pk_join Mi.sE_c (Mi.sE_frz (Mi.sN_2 Mi.pk_catL (Mi.sE_frz (Mi.sN_lst (Mi.sA_cons (Mi.sE_d Mi.sE_var) (Mi.sA_cons (Mi.sE_d Mi.sE_var) (Mi.sA_cons (Mi.sE_d Mi.sE_var) (Mi.sA_cons (Mi.sE_d Mi.sE_var) Mi.sA_nil)))))) Mi.sE_var))) Mi.sE_c) (Mi.sG_name (by decide))) 
    (Mi.sS_ret (Mi.sE_pk Mi.pk_cat Mi.sE_var (Mi.sE_call (fun _ _ _ h _ => (Mi.hE0 h).elim) (Mi.sA_cons (Mi.sE_d Mi.sE_var) Mi.sA_nil)))))
theorem ok_L_odd_digits (T : Txt K mg) : FnOk P w K mg base CX0 2 T.a__law_odd_digits T.d__law_odd_digits ["source", "number"] (Mi.spM K cl0 T.exa 2 m_L_odd_digits) := by
  refine T.F__law_odd_digits.ok sc_L_odd_digits (fun vs H Q E h => h.1) (fun cdv A outer s H vs Q E hr h => ?_)
  refine Mi.fin0 (ex := T.exa) (X := E) (
      (pss_cons (ps_set (i := 2) sc_L_odd_digits.nd rfl (Or.inl rfl) (pe_call (ok_L_pick T) (hr.mono (by decide : 1 ≤ _)) (by rfl) T.g__law_pick T.F__law_pick.kp T.b__law_pick .nil pass0 (pa_cons (pv 0) (pa_cons pe_int pa_nil))))
      (pss_cons (ps_if (pt_cmpR op_eq (pv 2) pe_int (nomark _)) 
        (pss_one (ps_ret (pe_op op_add_str (pe_op Mi.op_mulS pe_str (pe_op op_add pe_int (pe_call (ok_L_pick T) (hr.mono (by decide : 1 ≤ _)) (by rfl) T.g__law_pick T.F__law_pick.kp T.b__law_pick .nil pass0 (pa_cons (pv 0) (pa_cons pe_int pa_nil))))) (pe_callTy call_str_int (by rfl) T.n_str (by decide +kernel) (pa_cons (pv 1) pa_nil))))) pss_nil)
      (pss_cons (ps_if (pt_cmpR op_eq (pv 2) pe_int (nomark _)) 
        (pss_one (ps_ret (pe_callTy call_str_int (by rfl) T.n_str (by decide +kernel) (pa_cons (pe_op op_add pe_int (pe_call (ok_L_pick T) (hr.mono (by decide : 1 ≤ _)) (by rfl) T.g__law_pick T.F__law_pick.kp T.b__law_pick .nil pass0 (pa_cons (pv 0) (pa_cons (pe_op op_pow pe_int pe_int) pa_nil)))) pa_nil)))) pss_nil)
      (pss_cons (ps_if (pt_cmpR op_eq (pv 2) pe_int (nomark _)) 
        (pss_one (ps_ret (pe_ix ix_list (pe_lst (pa_cons pe_str (pa_cons pe_str (pa_cons pe_str (pa_cons pe_str (pa_cons pe_str (pa_cons pe_str (pa_cons pe_str (pa_cons pe_str (pa_cons pe_str pa_nil)))))))))) (pe_call (ok_L_pick T) (hr.mono (by decide : 1 ≤ _)) (by rfl) T.g__law_pick T.F__law_pick.kp T.b__law_pick .nil pass0 (pa_cons (pv 0) (pa_cons pe_int pa_nil))) (fun _ _ => rfl)))) pss_nil)
      (pss_one (ps_ret (pe_callTy call_str_int (by rfl) T.n_str (by decide +kernel) (pa_cons (pe_op op_sub (pe_op op_sub pe_int pe_int) (pv 1)) pa_nil))))))))) (fun xa => ?_) h
  exact (Mi.sS_seq (Mi.sS_asg (vs := [2]) (Mi.sE_call (fun _ _ _ h _ => (Mi.hE0 h).elim) (Mi.sA_cons Mi.sE_var (Mi.sA_cons Mi.sE_c Mi.sA_nil))) (Mi.sG_name (by decide))) 
    (Mi.sS_seq (Mi.sS_if (Mi.sT_test (Mi.sE_pk Mi.pk_eq Mi.sE_var Mi.sE_c)) (Mi.sS_ret (Mi.sE_pk Mi.pk_cat (Mi.sE_pk Mi.pk_mulS Mi.sE_c (Mi.sE_pk Mi.pk_add Mi.sE_c (Mi.sE_call (fun _ _ _ h _ => (Mi.hE0 h).elim) (Mi.sA_cons Mi.sE_var (Mi.sA_cons Mi.sE_c Mi.sA_nil))))) (Mi.sE_pkC Mi.pk_strI (Mi.sA_cons Mi.sE_var Mi.sA_nil)))) Mi.sS_next) 
    (Mi.sS_seq (Mi.sS_if (Mi.sT_test (Mi.sE_pk Mi.pk_eq Mi.sE_var Mi.sE_c)) (Mi.sS_ret (Mi.sE_pkC Mi.pk_strI (Mi.sA_cons (Mi.sE_pk Mi.pk_add Mi.sE_c (Mi.sE_call (fun _ _ _ h _ => (Mi.hE0 h).elim) (Mi.sA_cons Mi.sE_var (Mi.sA_cons (Mi.sE_d (Mi.sE_pk Mi.pk_pow Mi.sE_c Mi.sE_c)) Mi.sA_nil)))) Mi.sA_nil))) Mi.sS_next) 
    (Mi.sS_seq (Mi.sS_if (Mi.sT_test (Mi.sE_pk Mi.pk_eq Mi.sE_var Mi.sE_c)) (Mi.sS_ret (Mi.sE_pk Mi.pk_ixL (Mi.sE_frz (Mi.sN_lst (Mi.sA_cons Mi.sE_c (Mi.sA_cons Mi.sE_c (Mi.sA_cons Mi.sE_c (Mi.sA_cons Mi.sE_c (Mi.sA_cons Mi.sE_c (Mi.sA_cons Mi.sE_c (Mi.sA_cons Mi.sE_c (Mi.sA_cons Mi.sE_c (Mi.sA_cons Mi.sE_c Mi.sA_nil))))))))))) (Mi.sE_call (fun _ _ _ h _ => (Mi.hE0 h).elim) (Mi.sA_cons Mi.sE_var (Mi.sA_cons Mi.sE_c Mi.sA_nil))))) Mi.sS_next) 
    (Mi.sS_ret (Mi.sE_pkC Mi.pk_strI (Mi.sA_cons (Mi.sE_pk Mi.pk_sub (Mi.sE_pk Mi.pk_sub Mi.sE_c Mi.sE_c) Mi.sE_var) Mi.sA_nil)))))))
theorem ok_check_letter (T : Txt K mg) : FnOk P w K mg base (L2.CX P w) 3 T.a_check_letter T.d_check_letter ["letter"] (Mi.spM K cl0 T.exa 1 m_check_letter) := by
  refine T.F_check_letter.okX sc_check_letter (fun vs H Q E h => h.1) (fun cdv A outer s H vs Q E hr h => ?_)
  refine Mi.finX (ex := T.exa) (X := E) (
      (pss_cons (ps_asg (pv 0) (pg_tup (n := 5) (by rfl) (pgs_cons (pg_name (i := 1) sc_check_letter.nd rfl (Or.inl rfl)) (pgs_cons (pg_name (i := 2) sc_check_letter.nd rfl (Or.inl rfl)) (pgs_cons (pg_name (i := 3) sc_check_letter.nd rfl (Or.inl rfl)) (pgs_cons (pg_name (i := 4) sc_check_letter.nd rfl (Or.inl rfl)) (pgs_cons (pg_name (i := 5) sc_check_letter.nd rfl (Or.inl rfl)) pgs_nil)))))))
      (pss_cons (ps_expr (pe_call (ok_check_name T) (hr.mono (by decide : 2 ≤ _)) (by rfl) T.g_check_name T.F_check_name.kp T.b_check_name .nil (passes_call (takes_of rfl rfl rfl rfl) (fun _ _ _ _ h => h)) (pa_cons (pv 1) pa_nil)))
      (pss_cons (ps_expr (pe_call (ok_check_name T) (hr.mono (by decide : 2 ≤ _)) (by rfl) T.g_check_name T.F_check_name.kp T.b_check_name .nil (passes_call (takes_of rfl rfl rfl rfl) (fun _ _ _ _ h => h)) (pa_cons (pv 2) pa_nil)))
      (pss_cons (ps_expr (pe_call (ok_check_name T) (hr.mono (by decide : 2 ≤ _)) (by rfl) T.g_check_name T.F_check_name.kp T.b_check_name .nil (passes_call (takes_of rfl rfl rfl rfl) (fun _ _ _ _ h => h)) (pa_cons (pv 3) pa_nil)))
      (pss_cons (ps_if (pt_not (pt_chain op_le op_le pe_int (pv 4) (pe_glob (by rfl) T.g_GREATEST_NUMBER T.r_GREATEST_NUMBER))) 
        (pss_one (ps_raise rfl (takes_of rfl rfl rfl rfl) (pmk_own PySem.F.excBase_ValueError (T.exx .badValue) (T.exg .badValue) (T.exk .badValue) (raises_own (T.exb .badValue) (T.ext .badValue)) (by rfl)))) pss_nil)
      (pss_one (ps_expr (pe_call (ok_check_fields T) (hr.mono (by decide : 1 ≤ _)) (by rfl) T.g_check_fields T.F_check_fields.kp T.b_check_fields .nil (passes_call (takes_of rfl rfl rfl rfl) (fun _ _ _ _ h => h)) (pa_cons (pv 5) pa_nil)))))))))) (fun xa => ?_) h
  exact (Mi.sS_seq (Mi.sS_asg (vs := [1, 2, 3, 4, 5]) Mi.sE_var (Mi.sG_tup (Mi.sGs_cons (Mi.sG_name (by decide)) (Mi.sGs_cons (Mi.sG_name (by decide)) (Mi.sGs_cons (Mi.sG_name (by decide)) (Mi.sGs_cons (Mi.sG_name (by decide)) (Mi.sGs_cons (Mi.sG_name (by decide)) Mi.sGs_nil))))))) 
    (Mi.sS_seq (Mi.sS_drop (Mi.sE_call (fun _ _ _ _ h => h) (Mi.sA_cons (Mi.sE_d Mi.sE_var) Mi.sA_nil))) 
    (Mi.sS_seq (Mi.sS_drop (Mi.sE_call (fun _ _ _ _ h => h) (Mi.sA_cons (Mi.sE_d Mi.sE_var) Mi.sA_nil))) 
    (Mi.sS_seq (Mi.sS_drop (Mi.sE_call (fun _ _ _ _ h => h) (Mi.sA_cons (Mi.sE_d Mi.sE_var) Mi.sA_nil))) 
    (Mi.sS_seq (Mi.sS_if (Mi.sT_not (Mi.sT_B (Mi.sE_chain Mi.pk_le Mi.pk_le Mi.sE_c Mi.sE_var Mi.sE_c))) (Mi.sS_raise (fun _ _ _ h => h)) Mi.sS_next) 
    (Mi.sS_drop (Mi.sE_call (fun _ _ _ _ h => h) (Mi.sA_cons Mi.sE_var Mi.sA_nil))))))))
theorem ok_L_letter (T : Txt K mg) : FnOk P w K mg base CX0 3 T.a__law_letter T.d__law_letter ["source", "more"] (Mi.spM K cl0 T.exa 2 m_L_letter) := by
  refine T.F__law_letter.ok sc_L_letter (fun vs H Q E h => h.1) (fun cdv A outer s H vs Q E hr h => ?_)
  refine Mi.fin0 (ex := T.exa) (X := E) (
      (pss_cons (ps_set (i := 2) sc_L_letter.nd rfl (Or.inl rfl) (pe_ix ix_list (pe_lst (pa_cons pe_int (pa_cons pe_int (pa_cons (pe_call (ok_L_pick T) (hr.mono (by decide : 1 ≤ _)) (by rfl) T.g__law_pick T.F__law_pick.kp T.b__law_pick .nil pass0 (pa_cons (pv 0) (pa_cons pe_int pa_nil))) (pa_cons (pe_call (ok_L_pick T) (hr.mono (by decide : 1 ≤ _)) (by rfl) T.g__law_pick T.F__law_pick.kp T.b__law_pick .nil pass0 (pa_cons (pv 0) (pa_cons pe_int pa_nil))) pa_nil))))) (pe_call (ok_L_pick T) (hr.mono (by decide : 1 ≤ _)) (by rfl) T.g__law_pick T.F__law_pick.kp T.b__law_pick .nil pass0 (pa_cons (pv 0) (pa_cons pe_int pa_nil))) (fun _ _ => rfl)))
      (pss_cons (ps_set (i := 3) sc_L_letter.nd rfl (Or.inl rfl) (pe_ix ix_list (pe_lst (pa_cons (pe_call (ok_L_pick T) (hr.mono (by decide : 1 ≤ _)) (by rfl) T.g__law_pick T.F__law_pick.kp T.b__law_pick .nil pass0 (pa_cons (pv 0) (pa_cons pe_int pa_nil))) (pa_cons (pe_call (ok_L_pick T) (hr.mono (by decide : 1 ≤ _)) (by rfl) T.g__law_pick T.F__law_pick.kp T.b__law_pick .nil pass0 (pa_cons (pv 0) (pa_cons pe_int pa_nil))) (pa_cons pe_int (pa_cons pe_int pa_nil))))) (pe_call (ok_L_pick T) (hr.mono (by decide : 1 ≤ _)) (by rfl) T.g__law_pick T.F__law_pick.kp T.b__law_pick .nil pass0 (pa_cons (pv 0) (pa_cons pe_int pa_nil))) (fun _ _ => rfl)))
      (pss_cons (ps_setLc (i := 4) (own := [("k", 5)]) (g := gName 5) (tt := tYes) rfl sc_L_letter.nd rfl rfl (sw_true rfl rfl rfl (by decide +kernel)) (pi_range1 (by rfl) T.n_range (pa_cons (pv 3) pa_nil)) (blkOk_by (N := ["source", "more", "number", "many", "fields", "k"]) (sc := defScope s_L_letter) (by decide +kernel)) (fun _ _ _ _ _ => (pg_name (i := 5) sc_L_letter.nd rfl (Or.inl rfl))) (fun _ _ _ _ _ => pts_nil) (fun _ _ _ _ _ => (pe_call (ok_L_text T) (hr.mono (by decide : 2 ≤ _)) (by rfl) T.g__law_text T.F__law_text.kp T.b__law_text .nil pass0 (pa_cons (pv 1) (pa_cons pe_int pa_nil)))))
      (pss_one (ps_ret (pe_tup (pa_cons (pe_call (ok_L_name T) (hr.mono (by decide : 2 ≤ _)) (by rfl) T.g__law_name T.F__law_name.kp T.b__law_name .nil pass0 (pa_cons (pv 0) pa_nil)) (pa_cons (pe_call (ok_L_name T) (hr.mono (by decide : 2 ≤ _)) (by rfl) T.g__law_name T.F__law_name.kp T.b__law_name .nil pass0 (pa_cons (pv 0) pa_nil)) (pa_cons (pe_call (ok_L_name T) (hr.mono (by decide : 2 ≤ _)) (by rfl) T.g__law_name T.F__law_name.kp T.b__law_name .nil pass0 (pa_cons (pv 0) pa_nil)) (pa_cons (pv 2) (pa_cons (pv 4) pa_nil)))))))))))) (fun xa => ?_) h
  exact (Mi.sS_seq (Mi.sS_asg (vs := [2]) (Mi.sE_pk Mi.pk_ixL (Mi.sE_frz (Mi.sN_lst (Mi.sA_cons Mi.sE_c (Mi.sA_cons Mi.sE_c (Mi.sA_cons (Mi.sE_d (Mi.sE_call (fun _ _ _ h _ => (Mi.hE0 h).elim) (Mi.sA_cons Mi.sE_var (Mi.sA_cons Mi.sE_c Mi.sA_nil)))) (Mi.sA_cons (Mi.sE_d (Mi.sE_call (fun _ _ _ h _ => (Mi.hE0 h).elim) (Mi.sA_cons Mi.sE_var (Mi.sA_cons Mi.sE_c Mi.sA_nil)))) Mi.sA_nil)))))) (Mi.sE_call (fun _ _ _ h _ => (Mi.hE0 h).elim) (Mi.sA_cons Mi.sE_var (Mi.sA_cons Mi.sE_c Mi.sA_nil)))) (Mi.sG_name (by decide))) 
    (Mi.sS_seq (Mi.sS_asg (vs := [3]) (Mi.sE_pk Mi.pk_ixL (Mi.sE_frz (Mi.sN_lst (Mi.sA_cons (Mi.sE_d (Mi.sE_call (fun _ _ _ h _ => (Mi.hE0 h).elim) (Mi.sA_cons Mi.sE_var (Mi.sA_cons Mi.sE_c Mi.sA_nil)))) (Mi.sA_cons (Mi.sE_d (Mi.sE_call (fun _ _ _ h _ => (Mi.hE0 h).elim) (Mi.sA_cons Mi.sE_var (Mi.sA_cons Mi.sE_c Mi.sA_nil)))) (Mi.sA_cons Mi.sE_c (Mi.sA_cons Mi.sE_c Mi.sA_nil)))))) (Mi.sE_call (fun _ _ _ h _ => (Mi.hE0 h).elim) (Mi.sA_cons Mi.sE_var (Mi.sA_cons Mi.sE_c Mi.sA_nil)))) (Mi.sG_name (by decide))) 
    (Mi.sS_seq (Mi.sS_asg (vs := [4]) (Mi.sE_frz (Mi.sN_lc (vs := [5]) (Mi.sI_rng1 (Mi.sA_cons Mi.sE_var Mi.sA_nil)) (Mi.sG_name (by decide)) Mi.sT_yes (Mi.sE_call (fun _ _ _ h _ => (Mi.hE0 h).elim) (Mi.sA_cons Mi.sE_var (Mi.sA_cons Mi.sE_c Mi.sA_nil))))) (Mi.sG_name (by decide))) 
    (Mi.sS_ret (Mi.sE_tup (Mi.sA_cons (Mi.sE_d (Mi.sE_call (fun _ _ _ h _ => (Mi.hE0 h).elim) (Mi.sA_cons Mi.sE_var Mi.sA_nil))) (Mi.sA_cons (Mi.sE_d (Mi.sE_call (fun _ _ _ h _ => (Mi.hE0 h).elim) (Mi.sA_cons Mi.sE_var Mi.sA_nil))) (Mi.sA_cons (Mi.sE_d (Mi.sE_call (fun _ _ _ h _ => (Mi.hE0 h).elim) (Mi.sA_cons Mi.sE_var Mi.sA_nil))) (Mi.sA_cons (Mi.sE_d Mi.sE_var) (Mi.sA_cons (Mi.sE_d Mi.sE_var) Mi.sA_nil))))))))))
theorem ok_L_bad_name (T : Txt K mg) : FnOk P w K mg base CX0 3 T.a__law_bad_name T.d__law_bad_name ["source"] (Mi.spM K cl0 T.exa 1 m_L_bad_name) := by
  refine T.F__law_bad_name.ok sc_L_bad_name (fun vs H Q E h => h.1) (fun cdv A outer s H vs Q E hr h => ?_)
  refine Mi.fin0 (ex := T.exa) (X := E) (
      (pss_cons (ps_set (i := 1) sc_L_bad_name.nd rfl (Or.inl rfl) (pe_call (ok_L_name T) (hr.mono (by decide : 2 ≤ _)) (by rfl) T.g__law_name T.F__law_name.kp T.b__law_name .nil pass0 (pa_cons (pv 0) pa_nil)))
      (pss_cons (ps_set (i := 2) sc_L_bad_name.nd rfl (Or.inl rfl) (pe_call (ok_L_pick T) (hr.mono (by decide : 1 ≤ _)) (by rfl) T.g__law_pick T.F__law_pick.kp T.b__law_pick .nil pass0 (pa_cons (pv 0) (pa_cons pe_int pa_nil))))
      (pss_cons (ps_if (pt_cmpR op_eq (pv 2) pe_int (nomark _)) 
        (pss_one (ps_ret pe_str)) pss_nil)
      (pss_cons (ps_if (pt_cmpR op_eq (pv 2) pe_int (nomark _)) 
        (pss_one (ps_ret (pe_op op_add_str (pv 1) pe_str))) pss_nil)
      (pss_cons (ps_if (pt_cmpR op_eq (pv 2) pe_int (nomark _)) 
        (pss_one (ps_ret (pe_op op_add_str (pe_ix ix_str pe_str (pe_call (ok_L_pick T) (hr.mono (by decide : 1 ≤ _)) (by rfl) T.g__law_pick T.F__law_pick.kp T.b__law_pick .nil pass0 (pa_cons (pv 0) (pa_cons pe_int pa_nil))) (fun _ _ => rfl)) (pe_slice sl_str (pv 1) (po_some pe_int) po_none)))) pss_nil)
      (pss_cons (ps_set (i := 3) sc_L_bad_name.nd rfl (Or.inl rfl) pe_str)
      (pss_cons (ps_set (i := 4) sc_L_bad_name.nd rfl (Or.inl rfl) (pe_call (ok_L_pick T) (hr.mono (by decide : 1 ≤ _)) (by rfl) T.g__law_pick T.F__law_pick.kp T.b__law_pick .nil pass0 (pa_cons (pv 0) (pa_cons (pe_callB call_len_str (by rfl) T.n_len PySem.boot_len (pa_cons (pv 1) pa_nil)) pa_nil))))
      (pss_one (ps_ret (pe_op op_add_str (pe_op op_add_str (pe_slice sl_str (pv 1) po_none (po_some (pv 4))) (pe_ix ix_str (pv 3) (pe_call (ok_L_pick T) (hr.mono (by decide : 1 ≤ _)) (by rfl) T.g__law_pick T.F__law_pick.kp T.b__law_pick .nil pass0 (pa_cons (pv 0) (pa_cons (pe_callB call_len_str (by rfl) T.n_len PySem.boot_len (pa_cons (pv 3) pa_nil)) pa_nil))) (fun _ _ => rfl))) (pe_slice sl_str (pv 1) (po_some (pe_op op_add (pv 4) pe_int)) po_none)))))))))))) (fun xa => ?_) h
  exact (Mi.sS_seq (Mi.sS_asg (vs := [1]) (Mi.sE_call (fun _ _ _ h _ => (Mi.hE0 h).elim) (Mi.sA_cons Mi.sE_var Mi.sA_nil)) (Mi.sG_name (by decide))) 
    (Mi.sS_seq (Mi.sS_asg (vs := [2]) (Mi.sE_call (fun _ _ _ h _ => (Mi.hE0 h).elim) (Mi.sA_cons Mi.sE_var (Mi.sA_cons Mi.sE_c Mi.sA_nil))) (Mi.sG_name (by decide))) 
    (Mi.sS_seq (Mi.sS_if (Mi.sT_test (Mi.sE_pk Mi.pk_eq Mi.sE_var Mi.sE_c)) (Mi.sS_ret Mi.sE_c) Mi.sS_next) 
    (Mi.sS_seq (Mi.sS_if (Mi.sT_test (Mi.sE_pk Mi.pk_eq Mi.sE_var Mi.sE_c)) (Mi.sS_ret (Mi.sE_pk Mi.pk_cat Mi.sE_var Mi.sE_c)) Mi.sS_next) 
    (Mi.sS_seq (Mi.sS_if (Mi.sT_test (Mi.sE_pk Mi.pk_eq Mi.sE_var Mi.sE_c)) (Mi.sS_ret (Mi.sE_pk Mi.pk_cat (Mi.sE_pk Mi.pk_ixS Mi.sE_c (Mi.sE_call (fun _ _ _ h _ => (Mi.hE0 h).elim) (Mi.sA_cons Mi.sE_var (Mi.sA_cons Mi.sE_c Mi.sA_nil)))) (Mi.sE_slS Mi.sE_var (Mi.sO_some Mi.sE_c) Mi.sO_none))) Mi.sS_next) 
    (Mi.sS_seq (Mi.sS_asg (vs := [3]) Mi.sE_c (Mi.sG_name (by decide))) 
    (Mi.sS_seq (Mi.sS_asg (vs := [4]) (Mi.sE_call (fun _ _ _ h _ => (Mi.hE0 h).elim) (Mi.sA_cons Mi.sE_var (Mi.sA_cons (Mi.sE_d (Mi.sE_pkC Mi.pk_lenS (Mi.sA_cons Mi.sE_var Mi.sA_nil))) Mi.sA_nil))) (Mi.sG_name (by decide))) 
    (Mi.sS_ret (Mi.sE_pk Mi.pk_cat (Mi.sE_pk Mi.pk_cat (Mi.sE_slS Mi.sE_var Mi.sO_none (Mi.sO_some Mi.sE_var)) (Mi.sE_pk Mi.pk_ixS Mi.sE_var (Mi.sE_call (fun _ _ _ h _ => (Mi.hE0 h).elim) (Mi.sA_cons Mi.sE_var (Mi.sA_cons (Mi.sE_d (Mi.sE_pkC Mi.pk_lenS (Mi.sA_cons Mi.sE_var Mi.sA_nil))) Mi.sA_nil))))) (Mi.sE_slS Mi.sE_var (Mi.sO_some (Mi.sE_pk Mi.pk_add Mi.sE_var Mi.sE_c)) Mi.sO_none))))))))))
theorem ok_write_letter (T : Txt K mg) : FnOk P w K mg base (L2.CX P w) 4 T.a_write_letter T.d_write_letter ["letter"] (Mi.spM K cl0 T.exa 1 m_write_letter) := by
  refine T.F_write_letter.okX sc_write_letter (fun vs H Q E h => h.1) (fun cdv A outer s H vs Q E hr h => ?_)
  refine Mi.finX (ex := T.exa) (X := E) (
      (pss_cons (ps_expr (pe_call (ok_check_letter T) (hr.mono (by decide : 3 ≤ _)) (by rfl) T.g_check_letter T.F_check_letter.kp T.b_check_letter .nil (passes_call (takes_of rfl rfl rfl rfl) (fun _ _ _ _ h => h)) (pa_cons (pv 0) pa_nil)))
      (pss_cons (ps_asg (pv 0) (pg_tup (n := 5) (by rfl) (pgs_cons (pg_name (i := 1) sc_write_letter.nd rfl (Or.inl rfl)) (pgs_cons (pg_name (i := 2) sc_write_letter.nd rfl (Or.inl rfl)) (pgs_cons (pg_name (i := 3) sc_write_letter.nd rfl (Or.inl rfl)) (pgs_cons (pg_name (i := 4) sc_write_letter.nd rfl (Or.inl rfl)) (pgs_cons (pg_name (i := 5) sc_write_letter.nd rfl (Or.inl rfl)) pgs_nil)))))))
      (pss_cons (ps_set (i := 6) sc_write_letter.nd rfl (Or.inl rfl) (pe_op op_add_str (pe_join pe_str (pe_op Kv.op_catS (pe_lst (pa_cons (pv 1) (pa_cons (pv 2) (pa_cons (pv 3) (pa_cons (pe_callTy call_str_int (by rfl) T.n_str (by decide +kernel) (pa_cons (pv 4) pa_nil)) pa_nil))))) (pv 5))) pe_str))
      (pss_one (ps_ret (pe_op op_add_str (pv 6) (pe_call (ok_check_digits_of T) (hr.mono (by decide : 1 ≤ _)) (by rfl) T.g_check_digits_of T.F_check_digits_of.kp T.b_check_digits_of .nil pass0 (pa_cons (pv 6) pa_nil))))))))) (fun xa => ?_) h
  exact (Mi.sS_seq (Mi.sS_drop (Mi.sE_call (fun _ _ _ _ h => h) (Mi.sA_cons Mi.sE_var Mi.sA_nil))) 
    (Mi.sS_seq (Mi.sS_asg (vs := [1, 2, 3, 4, 5]) Mi.sE_var (Mi.sG_tup (Mi.sGs_cons (Mi.sG_name (by decide)) (Mi.sGs_cons (Mi.sG_name (by decide)) (Mi.sGs_cons (Mi.sG_name (by decide)) (Mi.sGs_cons (Mi.sG_name (by decide)) (Mi.sGs_cons (Mi.sG_name (by decide)) Mi.sGs_nil))))))) 
    (Mi.sS_seq (Mi.sS_asg (vs := [6]) (Mi.sE_pk Mi.pk_cat (Mi.sE_tM1 Mi.pk_join Mi.sE_c (Mi.sE_frz (Mi.sN_2 Mi.pk_catL (Mi.sE_frz (Mi.sN_lst (Mi.sA_cons (Mi.sE_d Mi.sE_var) (Mi.sA_cons (Mi.sE_d Mi.sE_var) (Mi.sA_cons (Mi.sE_d Mi.sE_var) (Mi.sA_cons (Mi.sE_d (Mi.sE_pkC Mi.pk_strI (Mi.sA_cons Mi.sE_var Mi.sA_nil))) Mi.sA_nil)))))) Mi.sE_var))) Mi.sE_c) (Mi.sG_name (by decide))) 
    (Mi.sS_ret (Mi.sE_pk Mi.pk_cat Mi.sE_var (Mi.sE_call (fun _ _ _ h _ => (Mi.hE0 h).elim) (Mi.sA_cons (Mi.sE_d Mi.sE_var) Mi.sA_nil)))))))
theorem ok_L_odd_parts (T : Txt K mg) : FnOk P w K mg base CX0 4 T.a__law_odd_parts T.d__law_odd_parts ["source", "letter"] (Mi.spM K cl0 T.exa 2 m_L_odd_parts) := by
  refine Mi.fun_okT T.F__law_odd_parts sc_L_odd_parts (by decide +kernel) (by decide) (fun vs H Q E h => h.1) (fun cdv A outer s H vs Q E hr h => ?_)
  refine Mi.fin0T (ex := T.exa) (X := E) (
      (psst_cons (PST.of (ps_set (i := 2) sc_L_odd_parts.nd rfl (Or.inl rfl) (pe_lst (pa_cons (pe_ix ix_tup (pv 1) pe_int (fun _ _ => rfl)) (pa_cons (pe_ix ix_tup (pv 1) pe_int (fun _ _ => rfl)) (pa_cons (pe_ix ix_tup (pv 1) pe_int (fun _ _ => rfl)) pa_nil))))))
      (psst_cons (PST.of (ps_set (i := 3) sc_L_odd_parts.nd rfl (Or.inl rfl) (pe_callTy call_list_of (by rfl) T.n_list (by decide +kernel) (pa_cons (pe_ix ix_tup (pv 1) pe_int (fun _ _ => rfl)) pa_nil))))
      (psst_cons (PST.of (ps_set (i := 4) sc_L_odd_parts.nd rfl (Or.inl rfl) (pe_callTy call_str_int (by rfl) T.n_str (by decide +kernel) (pa_cons (pe_ix ix_tup (pv 1) pe_int (fun _ _ => rfl)) pa_nil))))
      (psst_cons (PST.of (ps_set (i := 5) sc_L_odd_parts.nd rfl (Or.inl rfl) (pe_call (ok_L_pick T) (hr.mono (by decide : 1 ≤ _)) (by rfl) T.g__law_pick T.F__law_pick.kp T.b__law_pick .nil pass0 (pa_cons (pv 0) (pa_cons pe_int pa_nil)))))
      (psst_cons (CwR.pst_if (pt_cmpR op_eq (pv 5) pe_int (nomark _)) 
        (CwR.psst_one (Mi.pst_asg (CwR.pet_replC (pe_call (ok_L_bad_name T) (hr.mono (by decide : 3 ≤ _)) (by rfl) T.g__law_bad_name T.F__law_bad_name.kp T.b__law_bad_name .nil pass0 (pa_cons (pv 0) pa_nil))) (pg_sub (pv 2) (pe_call (ok_L_pick T) (hr.mono (by decide : 1 ≤ _)) (by rfl) T.g__law_pick T.F__law_pick.kp T.b__law_pick .nil pass0 (pa_cons (pv 0) (pa_cons pe_int pa_nil))) set_list))) (PSsT.of pss_nil))
      (PSsT.of (pss_cons (ps_if (pt_cmpR op_eq (pv 5) pe_int (nomark _)) 
        (pss_one (ps_set (i := 4) sc_L_odd_parts.nd rfl (Or.inl rfl) (pe_call (ok_L_odd_digits T) (hr.mono (by decide : 2 ≤ _)) (by rfl) T.g__law_odd_digits T.F__law_odd_digits.kp T.b__law_odd_digits .nil pass0 (pa_cons (pv 0) (pa_cons (pe_ix ix_tup (pv 1) pe_int (fun _ _ => rfl)) pa_nil))))) pss_nil)
      (pss_cons (ps_if (pt_cmpR op_eq (pv 5) pe_int (nomark _)) 
        (pss_one (ps_set (i := 3) sc_L_odd_parts.nd rfl (Or.inl rfl) (pe_slice sl_list (pe_op Kv.op_catS (pv 3) (pe_lst (pa_cons pe_str (pa_cons pe_str (pa_cons (pe_call (ok_L_text T) (hr.mono (by decide : 2 ≤ _)) (by rfl) T.g__law_text T.F__law_text.kp T.b__law_text .nil pass0 (pa_cons (pv 0) (pa_cons pe_int pa_nil))) (pa_cons pe_str (pa_cons pe_str (pa_cons pe_str (pa_cons pe_str (pa_cons pe_str (pa_cons pe_str pa_nil))))))))))) po_none (po_some (pe_op op_add pe_int (pe_call (ok_L_pick T) (hr.mono (by decide : 1 ≤ _)) (by rfl) T.g__law_pick T.F__law_pick.kp T.b__law_pick .nil pass0 (pa_cons (pv 0) (pa_cons pe_int pa_nil)))))))) pss_nil)
      (pss_cons (ps_if (pt_cmpR op_eq (pv 5) pe_int (nomark _)) 
        (pss_cons (ps_set (i := 6) sc_L_odd_parts.nd rfl (Or.inl rfl) (pe_op op_add_str (pe_call (ok_L_text T) (hr.mono (by decide : 2 ≤ _)) (by rfl) T.g__law_text T.F__law_text.kp T.b__law_text .nil pass0 (pa_cons (pv 0) (pa_cons pe_int pa_nil))) pe_str))
        (pss_cons (ps_set (i := 7) sc_L_odd_parts.nd rfl (Or.inl rfl) (pe_call (ok_L_pick T) (hr.mono (by decide : 1 ≤ _)) (by rfl) T.g__law_pick T.F__law_pick.kp T.b__law_pick .nil pass0 (pa_cons (pv 0) (pa_cons pe_int pa_nil))))
        (pss_one (ps_set (i := 3) sc_L_odd_parts.nd rfl (Or.inl rfl) (pe_op Kv.op_catS (pe_op Kv.op_catS (pe_slice sl_list (pe_slice sl_list (pv 3) po_none (po_some pe_int)) po_none (po_some (pv 7))) (pe_lst (pa_cons (pv 6) pa_nil))) (pe_slice sl_list (pe_slice sl_list (pv 3) po_none (po_some pe_int)) (po_some (pv 7)) po_none)))))) pss_nil)
      (pss_cons (ps_if (pt_cmpR op_eq (pv 5) pe_int (nomark _)) 
        (pss_cons (ps_set (i := 8) sc_L_odd_parts.nd rfl (Or.inl rfl) (pe_op op_add_str (pe_join pe_str (pe_slice sl_list (pv 2) po_none (po_some (pe_op op_add pe_int (pe_call (ok_L_pick T) (hr.mono (by decide : 1 ≤ _)) (by rfl) T.g__law_pick T.F__law_pick.kp T.b__law_pick .nil pass0 (pa_cons (pv 0) (pa_cons pe_int pa_nil))))))) pe_str))
        (pss_one (ps_ret (pe_op op_add_str (pv 8) (pe_call (ok_L_check T) (hr.mono (by decide : 1 ≤ _)) (by rfl) T.g__law_check T.F__law_check.kp T.b__law_check .nil pass0 (pa_cons (pv 8) pa_nil)))))) pss_nil)
      (pss_one (ps_ret (pe_call (ok_L_written T) (hr.mono (by decide : 2 ≤ _)) (by rfl) T.g__law_written T.F__law_written.kp T.b__law_written .nil pass0 (pa_cons (pe_ix ix_list (pv 2) pe_int (fun _ _ => rfl)) (pa_cons (pe_ix ix_list (pv 2) pe_int (fun _ _ => rfl)) (pa_cons (pe_ix ix_list (pv 2) pe_int (fun _ _ => rfl)) (pa_cons (pv 4) (pa_cons (pv 3) pa_nil))))))))))))))))))) (fun xa => ?_) h
  exact (Mi.sS_seq (Mi.sS_asgN (Mi.sN_lst (Mi.sA_cons (Mi.sE_d (Mi.sE_pk Mi.pk_ixT Mi.sE_var Mi.sE_c)) (Mi.sA_cons (Mi.sE_d (Mi.sE_pk Mi.pk_ixT Mi.sE_var Mi.sE_c)) (Mi.sA_cons (Mi.sE_d (Mi.sE_pk Mi.pk_ixT Mi.sE_var Mi.sE_c)) Mi.sA_nil))))) 
    (Mi.sS_seq (Mi.sS_asg (vs := [3]) (Mi.sE_frz (Mi.sN_C Mi.pk_listOf (Mi.sA_cons (Mi.sE_pk Mi.pk_ixT Mi.sE_var Mi.sE_c) Mi.sA_nil))) (Mi.sG_name (by decide))) 
    (Mi.sS_seq (Mi.sS_asg (vs := [4]) (Mi.sE_pkC Mi.pk_strI (Mi.sA_cons (Mi.sE_pk Mi.pk_ixT Mi.sE_var Mi.sE_c) Mi.sA_nil)) (Mi.sG_name (by decide))) 
    (Mi.sS_seq (Mi.sS_asg (vs := [5]) (Mi.sE_call (fun _ _ _ h _ => (Mi.hE0 h).elim) (Mi.sA_cons Mi.sE_var (Mi.sA_cons Mi.sE_c Mi.sA_nil))) (Mi.sG_name (by decide))) 
    (Mi.sS_seq (Mi.sS_if (Mi.sT_test (Mi.sE_pk Mi.pk_eq Mi.sE_var Mi.sE_c)) (Mi.sS_asg (vs := []) (Mi.sE_d (Mi.sE_replC (Mi.sE_call (fun _ _ _ h _ => (Mi.hE0 h).elim) (Mi.sA_cons Mi.sE_var Mi.sA_nil)))) (Mi.sG_sub Mi.sE_var (Mi.sE_call (fun _ _ _ h _ => (Mi.hE0 h).elim) (Mi.sA_cons Mi.sE_var (Mi.sA_cons Mi.sE_c Mi.sA_nil))))) Mi.sS_next) 
    (Mi.sS_seq (Mi.sS_if (Mi.sT_test (Mi.sE_pk Mi.pk_eq Mi.sE_var Mi.sE_c)) (Mi.sS_asg (vs := [4]) (Mi.sE_call (fun _ _ _ h _ => (Mi.hE0 h).elim) (Mi.sA_cons Mi.sE_var (Mi.sA_cons (Mi.sE_d (Mi.sE_pk Mi.pk_ixT Mi.sE_var Mi.sE_c)) Mi.sA_nil))) (Mi.sG_name (by decide))) Mi.sS_next) 
    (Mi.sS_seq (Mi.sS_if (Mi.sT_test (Mi.sE_pk Mi.pk_eq Mi.sE_var Mi.sE_c)) (Mi.sS_asg (vs := [3]) (Mi.sE_frz (Mi.sN_slL (Mi.sE_frz (Mi.sN_2 Mi.pk_catL Mi.sE_var (Mi.sE_frz (Mi.sN_lst (Mi.sA_cons Mi.sE_c (Mi.sA_cons Mi.sE_c (Mi.sA_cons (Mi.sE_d (Mi.sE_call (fun _ _ _ h _ => (Mi.hE0 h).elim) (Mi.sA_cons Mi.sE_var (Mi.sA_cons Mi.sE_c Mi.sA_nil)))) (Mi.sA_cons Mi.sE_c (Mi.sA_cons Mi.sE_c (Mi.sA_cons Mi.sE_c (Mi.sA_cons Mi.sE_c (Mi.sA_cons Mi.sE_c (Mi.sA_cons Mi.sE_c Mi.sA_nil))))))))))))) Mi.sO_none (Mi.sO_some (Mi.sE_pk Mi.pk_add Mi.sE_c (Mi.sE_call (fun _ _ _ h _ => (Mi.hE0 h).elim) (Mi.sA_cons Mi.sE_var (Mi.sA_cons Mi.sE_c Mi.sA_nil))))))) (Mi.sG_name (by decide))) Mi.sS_next) 
    (Mi.sS_seq (Mi.sS_if (Mi.sT_test (Mi.sE_pk Mi.pk_eq Mi.sE_var Mi.sE_c)) (Mi.sS_seq (Mi.sS_asg (vs := [6]) (Mi.sE_pk Mi.pk_cat (Mi.sE_call (fun _ _ _ h _ => (Mi.hE0 h).elim) (Mi.sA_cons Mi.sE_var (Mi.sA_cons Mi.sE_c Mi.sA_nil))) Mi.sE_c) (Mi.sG_name (by decide))) 
      (Mi.sS_seq (Mi.sS_asg (vs := [7]) (Mi.sE_call (fun _ _ _ h _ => (Mi.hE0 h).elim) (Mi.sA_cons Mi.sE_var (Mi.sA_cons Mi.sE_c Mi.sA_nil))) (Mi.sG_name (by decide))) 
      (Mi.sS_asg (vs := [3]) (Mi.sE_frz (Mi.sN_2 Mi.pk_catL (Mi.sE_frz (Mi.sN_2 Mi.pk_catL (Mi.sE_frz (Mi.sN_slL (Mi.sE_frz (Mi.sN_slL Mi.sE_var Mi.sO_none (Mi.sO_some Mi.sE_c))) Mi.sO_none (Mi.sO_some Mi.sE_var))) (Mi.sE_frz (Mi.sN_lst (Mi.sA_cons (Mi.sE_d Mi.sE_var) Mi.sA_nil))))) (Mi.sE_frz (Mi.sN_slL (Mi.sE_frz (Mi.sN_slL Mi.sE_var Mi.sO_none (Mi.sO_some Mi.sE_c))) (Mi.sO_some Mi.sE_var) Mi.sO_none)))) (Mi.sG_name (by decide))))) Mi.sS_next) 
    (Mi.sS_seq (Mi.sS_if (Mi.sT_test (Mi.sE_pk Mi.pk_eq Mi.sE_var Mi.sE_c)) (Mi.sS_seq (Mi.sS_asg (vs := [8]) (Mi.sE_pk Mi.pk_cat (Mi.sE_tM1 Mi.pk_join Mi.sE_c (Mi.sE_frz (Mi.sN_slL Mi.sE_var Mi.sO_none (Mi.sO_some (Mi.sE_pk Mi.pk_add Mi.sE_c (Mi.sE_call (fun _ _ _ h _ => (Mi.hE0 h).elim) (Mi.sA_cons Mi.sE_var (Mi.sA_cons Mi.sE_c Mi.sA_nil)))))))) Mi.sE_c) (Mi.sG_name (by decide))) 
      (Mi.sS_ret (Mi.sE_pk Mi.pk_cat Mi.sE_var (Mi.sE_call (fun _ _ _ h _ => (Mi.hE0 h).elim) (Mi.sA_cons (Mi.sE_d Mi.sE_var) Mi.sA_nil))))) Mi.sS_next) 
    (Mi.sS_ret (Mi.sE_call (fun _ _ _ h _ => (Mi.hE0 h).elim) (Mi.sA_cons (Mi.sE_d (Mi.sE_pk Mi.pk_ixL Mi.sE_var Mi.sE_c)) (Mi.sA_cons (Mi.sE_d (Mi.sE_pk Mi.pk_ixL Mi.sE_var Mi.sE_c)) (Mi.sA_cons (Mi.sE_d (Mi.sE_pk Mi.pk_ixL Mi.sE_var Mi.sE_c)) (Mi.sA_cons (Mi.sE_d Mi.sE_var) (Mi.sA_cons Mi.sE_var Mi.sA_nil))))))))))))))))
theorem ok_is_written (T : Txt K mg) : FnOk P w K mg base CX0 5 T.a_is_written T.d_is_written ["letter", "text"] (Mi.spM K cl0 T.exa 2 m_is_written) := by
  refine T.F_is_written.ok sc_is_written (fun vs H Q E h => h.1) (fun cdv A outer s H vs Q E hr h => ?_)
  refine Mi.fin0 (ex := T.exa) (X := E) (
      (pss_one (ps_try_only rfl rfl ⟨rfl, by decide, .inl (T.exg .badValue)⟩ takes0 (fun W pn xe tk hpo => by exact (
          (pss_one (ps_ret (pe_cmpR op_eq (pe_callS (ok_write_letter T) (hr.mono (by decide : 4 ≤ _)) (by rfl) T.g_write_letter T.F_write_letter.kp T.b_write_letter (fun σ => passAt tk σ) (pa_cons (pv 0) pa_nil)) (pv 1) (nomark _)))))) (fun a oe cls d pn hz hf => by exact (
          (pss_one (ps_ret pe_bl))))))) (fun xa => ?_) h
  exact (Mi.sS_tryO (ex := T.exa) (hit := (fun e => decide (e = .badValue))) (fun W => (Mi.sS_ret (Mi.sE_pk Mi.pk_eq (Mi.sE_callS (fun _ _ _ _ h => h) (Mi.sA_cons Mi.sE_var Mi.sA_nil)) Mi.sE_var))) (fun a er => (Mi.sS_ret (Mi.sE_c (v := .bl false) (d := .bl false)))) (Kv.exh_of T.xh_badValue) (fun _ _ _ h => h))
theorem ok_L_odd_text (T : Txt K mg) : FnOk P w K mg base CX0 5 T.a__law_odd_text T.d__law_odd_text ["source", "letter"] (Mi.spM K cl0 T.exa 2 m_L_odd_text) := by
  refine T.F__law_odd_text.ok sc_L_odd_text (fun vs H Q E h => h.1) (fun cdv A outer s H vs Q E hr h => ?_)
  refine Mi.fin0 (ex := T.exa) (X := E) (
      (pss_cons (ps_set (i := 2) sc_L_odd_text.nd rfl (Or.inl rfl) (pe_call (ok_L_written T) (hr.mono (by decide : 2 ≤ _)) (by rfl) T.g__law_written T.F__law_written.kp T.b__law_written .nil pass0 (pa_cons (pe_ix ix_tup (pv 1) pe_int (fun _ _ => rfl)) (pa_cons (pe_ix ix_tup (pv 1) pe_int (fun _ _ => rfl)) (pa_cons (pe_ix ix_tup (pv 1) pe_int (fun _ _ => rfl)) (pa_cons (pe_callTy call_str_int (by rfl) T.n_str (by decide +kernel) (pa_cons (pe_ix ix_tup (pv 1) pe_int (fun _ _ => rfl)) pa_nil)) (pa_cons (pe_ix ix_tup (pv 1) pe_int (fun _ _ => rfl)) pa_nil)))))))
      (pss_cons (ps_set (i := 3) sc_L_odd_text.nd rfl (Or.inl rfl) (pe_call (ok_L_pick T) (hr.mono (by decide : 1 ≤ _)) (by rfl) T.g__law_pick T.F__law_pick.kp T.b__law_pick .nil pass0 (pa_cons (pv 0) (pa_cons pe_int pa_nil))))
      (pss_cons (ps_if (pt_cmpR op_eq (pv 3) pe_int (nomark _)) 
        (pss_cons (ps_set (i := 4) sc_L_odd_text.nd rfl (Or.inl rfl) (pe_callTy call_int_str (by rfl) T.n_int (by decide +kernel) (pa_cons (pe_slice sl_str (pv 2) (po_some (pe_un un_neg pe_int)) po_none) pa_nil)))
        (pss_cons (ps_set (i := 5) sc_L_odd_text.nd rfl (Or.inl rfl) (pe_callTy call_str_int (by rfl) T.n_str (by decide +kernel) (pa_cons (pe_op op_mod (pe_callTy call_int1 (by rfl) T.n_int (by decide +kernel) (pa_cons (pe_op op_add (pe_op op_add (pv 4) pe_int) (pe_call (ok_L_pick T) (hr.mono (by decide : 1 ≤ _)) (by rfl) T.g__law_pick T.F__law_pick.kp T.b__law_pick .nil pass0 (pa_cons (pv 0) (pa_cons pe_int pa_nil)))) pa_nil)) pe_int) pa_nil)))
        (pss_one (ps_ret (pe_op op_add_str (pe_op op_add_str (pe_slice sl_str (pv 2) po_none (po_some (pe_un un_neg pe_int))) (pe_op Mi.op_mulS pe_str (pe_op op_sub pe_int (pe_callB call_len_str (by rfl) T.n_len PySem.boot_len (pa_cons (pv 5) pa_nil))))) (pv 5)))))) pss_nil)
      (pss_cons (ps_if (pt_cmpR op_eq (pv 3) pe_int (nomark _)) 
        (pss_one (ps_ret (pe_slice sl_str (pv 2) po_none (po_some (pe_op op_sub (pe_op op_sub (pe_callB call_len_str (by rfl) T.n_len PySem.boot_len (pa_cons (pv 2) pa_nil)) pe_int) (pe_call (ok_L_pick T) (hr.mono (by decide : 1 ≤ _)) (by rfl) T.g__law_pick T.F__law_pick.kp T.b__law_pick .nil pass0 (pa_cons (pv 0) (pa_cons pe_int pa_nil)))))))) pss_nil)
      (pss_cons (ps_if (pt_cmpR op_eq (pv 3) pe_int (nomark _)) 
        (pss_one (ps_ret (pe_op op_add_str (pv 2) (pe_ix ix_str pe_str (pe_call (ok_L_pick T) (hr.mono (by decide : 1 ≤ _)) (by rfl) T.g__law_pick T.F__law_pick.kp T.b__law_pick .nil pass0 (pa_cons (pv 0) (pa_cons pe_int pa_nil))) (fun _ _ => rfl))))) pss_nil)
      (pss_cons (ps_if (pt_cmpR op_eq (pv 3) pe_int (nomark _)) 
        (pss_cons (ps_set (i := 6) sc_L_odd_text.nd rfl (Or.inl rfl) (pe_op op_sub (pe_op op_sub (pe_callB call_len_str (by rfl) T.n_len PySem.boot_len (pa_cons (pv 2) pa_nil)) pe_int) (pe_call (ok_L_pick T) (hr.mono (by decide : 1 ≤ _)) (by rfl) T.g__law_pick T.F__law_pick.kp T.b__law_pick .nil pass0 (pa_cons (pv 0) (pa_cons pe_int pa_nil)))))
        (pss_one (ps_ret (pe_op op_add_str (pe_op op_add_str (pe_slice sl_str (pv 2) po_none (po_some (pv 6))) (pe_ix ix_str pe_str (pe_call (ok_L_pick T) (hr.mono (by decide : 1 ≤ _)) (by rfl) T.g__law_pick T.F__law_pick.kp T.b__law_pick .nil pass0 (pa_cons (pv 0) (pa_cons pe_int pa_nil))) (fun _ _ => rfl))) (pe_slice sl_str (pv 2) (po_some (pe_op op_add (pv 6) pe_int)) po_none))))) pss_nil)
      (pss_cons (ps_if (pt_cmpR op_eq (pv 3) pe_int (nomark _)) 
        (pss_one (ps_ret (pe_ix ix_list (pe_lst (pa_cons pe_str (pa_cons pe_str (pa_cons pe_str (pa_cons pe_str (pa_cons pe_str pa_nil)))))) (pe_call (ok_L_pick T) (hr.mono (by decide : 1 ≤ _)) (by rfl) T.g__law_pick T.F__law_pick.kp T.b__law_pick .nil pass0 (pa_cons (pv 0) (pa_cons pe_int pa_nil))) (fun _ _ => rfl)))) pss_nil)
      (pss_one (ps_ret (pe_call (ok_L_odd_parts T) (hr.mono (by decide : 4 ≤ _)) (by rfl) T.g__law_odd_parts T.F__law_odd_parts.kp T.b__law_odd_parts .nil pass0 (pa_cons (pv 0) (pa_cons (pv 1) pa_nil))))))))))))) (fun xa => ?_) h
  exact (Mi.sS_seq (Mi.sS_asg (vs := [2]) (Mi.sE_call (fun _ _ _ h _ => (Mi.hE0 h).elim) (Mi.sA_cons (Mi.sE_d (Mi.sE_pk Mi.pk_ixT Mi.sE_var Mi.sE_c)) (Mi.sA_cons (Mi.sE_d (Mi.sE_pk Mi.pk_ixT Mi.sE_var Mi.sE_c)) (Mi.sA_cons (Mi.sE_d (Mi.sE_pk Mi.pk_ixT Mi.sE_var Mi.sE_c)) (Mi.sA_cons (Mi.sE_d (Mi.sE_pkC Mi.pk_strI (Mi.sA_cons (Mi.sE_pk Mi.pk_ixT Mi.sE_var Mi.sE_c) Mi.sA_nil))) (Mi.sA_cons (Mi.sE_d (Mi.sE_pk Mi.pk_ixT Mi.sE_var Mi.sE_c)) Mi.sA_nil)))))) (Mi.sG_name (by decide))) 
    (Mi.sS_seq (Mi.sS_asg (vs := [3]) (Mi.sE_call (fun _ _ _ h _ => (Mi.hE0 h).elim) (Mi.sA_cons Mi.sE_var (Mi.sA_cons Mi.sE_c Mi.sA_nil))) (Mi.sG_name (by decide))) 
    (Mi.sS_seq (Mi.sS_if (Mi.sT_test (Mi.sE_pk Mi.pk_eq Mi.sE_var Mi.sE_c)) (Mi.sS_seq (Mi.sS_asg (vs := [4]) (Mi.sE_pkC Mi.pk_intS (Mi.sA_cons (Mi.sE_slS Mi.sE_var (Mi.sO_some (Mi.sE_un Mi.pk_neg Mi.sE_c)) Mi.sO_none) Mi.sA_nil)) (Mi.sG_name (by decide))) 
      (Mi.sS_seq (Mi.sS_asg (vs := [5]) (Mi.sE_pkC Mi.pk_strI (Mi.sA_cons (Mi.sE_pk Mi.pk_mod (Mi.sE_pkC Mi.pk_int1 (Mi.sA_cons (Mi.sE_pk Mi.pk_add (Mi.sE_pk Mi.pk_add Mi.sE_var Mi.sE_c) (Mi.sE_call (fun _ _ _ h _ => (Mi.hE0 h).elim) (Mi.sA_cons Mi.sE_var (Mi.sA_cons Mi.sE_c Mi.sA_nil)))) Mi.sA_nil)) Mi.sE_c) Mi.sA_nil)) (Mi.sG_name (by decide))) 
      (Mi.sS_ret (Mi.sE_pk Mi.pk_cat (Mi.sE_pk Mi.pk_cat (Mi.sE_slS Mi.sE_var Mi.sO_none (Mi.sO_some (Mi.sE_un Mi.pk_neg Mi.sE_c))) (Mi.sE_pk Mi.pk_mulS Mi.sE_c (Mi.sE_pk Mi.pk_sub Mi.sE_c (Mi.sE_pkC Mi.pk_lenS (Mi.sA_cons Mi.sE_var Mi.sA_nil))))) Mi.sE_var)))) Mi.sS_next) 
    (Mi.sS_seq (Mi.sS_if (Mi.sT_test (Mi.sE_pk Mi.pk_eq Mi.sE_var Mi.sE_c)) (Mi.sS_ret (Mi.sE_slS Mi.sE_var Mi.sO_none (Mi.sO_some (Mi.sE_pk Mi.pk_sub (Mi.sE_pk Mi.pk_sub (Mi.sE_pkC Mi.pk_lenS (Mi.sA_cons Mi.sE_var Mi.sA_nil)) Mi.sE_c) (Mi.sE_call (fun _ _ _ h _ => (Mi.hE0 h).elim) (Mi.sA_cons Mi.sE_var (Mi.sA_cons Mi.sE_c Mi.sA_nil))))))) Mi.sS_next) 
    (Mi.sS_seq (Mi.sS_if (Mi.sT_test (Mi.sE_pk Mi.pk_eq Mi.sE_var Mi.sE_c)) (Mi.sS_ret (Mi.sE_pk Mi.pk_cat Mi.sE_var (Mi.sE_pk Mi.pk_ixS Mi.sE_c (Mi.sE_call (fun _ _ _ h _ => (Mi.hE0 h).elim) (Mi.sA_cons Mi.sE_var (Mi.sA_cons Mi.sE_c Mi.sA_nil)))))) Mi.sS_next) 
    (Mi.sS_seq (Mi.sS_if (Mi.sT_test (Mi.sE_pk Mi.pk_eq Mi.sE_var Mi.sE_c)) (Mi.sS_seq (Mi.sS_asg (vs := [6]) (Mi.sE_pk Mi.pk_sub (Mi.sE_pk Mi.pk_sub (Mi.sE_pkC Mi.pk_lenS (Mi.sA_cons Mi.sE_var Mi.sA_nil)) Mi.sE_c) (Mi.sE_call (fun _ _ _ h _ => (Mi.hE0 h).elim) (Mi.sA_cons Mi.sE_var (Mi.sA_cons Mi.sE_c Mi.sA_nil)))) (Mi.sG_name (by decide))) 
      (Mi.sS_ret (Mi.sE_pk Mi.pk_cat (Mi.sE_pk Mi.pk_cat (Mi.sE_slS Mi.sE_var Mi.sO_none (Mi.sO_some Mi.sE_var)) (Mi.sE_pk Mi.pk_ixS Mi.sE_c (Mi.sE_call (fun _ _ _ h _ => (Mi.hE0 h).elim) (Mi.sA_cons Mi.sE_var (Mi.sA_cons Mi.sE_c Mi.sA_nil))))) (Mi.sE_slS Mi.sE_var (Mi.sO_some (Mi.sE_pk Mi.pk_add Mi.sE_var Mi.sE_c)) Mi.sO_none)))) Mi.sS_next) 
    (Mi.sS_seq (Mi.sS_if (Mi.sT_test (Mi.sE_pk Mi.pk_eq Mi.sE_var Mi.sE_c)) (Mi.sS_ret (Mi.sE_pk Mi.pk_ixL (Mi.sE_frz (Mi.sN_lst (Mi.sA_cons Mi.sE_c (Mi.sA_cons Mi.sE_c (Mi.sA_cons Mi.sE_c (Mi.sA_cons Mi.sE_c (Mi.sA_cons Mi.sE_c Mi.sA_nil))))))) (Mi.sE_call (fun _ _ _ h _ => (Mi.hE0 h).elim) (Mi.sA_cons Mi.sE_var (Mi.sA_cons Mi.sE_c Mi.sA_nil))))) Mi.sS_next) 
    (Mi.sS_ret (Mi.sE_call (fun _ _ _ h _ => (Mi.hE0 h).elim) (Mi.sA_cons Mi.sE_var (Mi.sA_cons Mi.sE_var Mi.sA_nil)))))))))))
theorem ok_read_letter (T : Txt K mg) : FnOk P w K mg base (L2.CX P w) 6 T.a_read_letter T.d_read_letter ["text"] (Mi.spM K cl0 T.exa 1 m_read_letter) := by
  refine T.F_read_letter.okX sc_read_letter (fun vs H Q E h => h.1) (fun cdv A outer s H vs Q E hr h => ?_)
  refine Mi.finX (ex := T.exa) (X := E) (
      (pss_cons (ps_set (i := 1) sc_read_letter.nd rfl (Or.inl rfl) (pe_split (pv 0) pe_str))
      (pss_cons (ps_if (pt_not (pt_chain op_le op_le (pe_glob (by rfl) T.g_OTHER_PARTS T.r_OTHER_PARTS) (pe_callB call_len_seq (by rfl) T.n_len PySem.boot_len (pa_cons (pv 1) pa_nil)) (pe_op op_add (pe_glob (by rfl) T.g_OTHER_PARTS T.r_OTHER_PARTS) (pe_glob (by rfl) T.g_MOST_FIELDS T.r_MOST_FIELDS)))) 
        (pss_one (ps_raise rfl (takes_of rfl rfl rfl rfl) (pmk_own PySem.F.excBase_ValueError (T.exx .damaged) (T.exg .damaged) (T.exk .damaged) (raises_own (T.exb .damaged) (T.ext .damaged)) (by rfl)))) pss_nil)
      (pss_cons (ps_asg (pe_slice sl_list (pv 1) po_none (po_some pe_int)) (pg_lst (n := 4) (by rfl) (pgs_cons (pg_name (i := 2) sc_read_letter.nd rfl (Or.inl rfl)) (pgs_cons (pg_name (i := 3) sc_read_letter.nd rfl (Or.inl rfl)) (pgs_cons (pg_name (i := 4) sc_read_letter.nd rfl (Or.inl rfl)) (pgs_cons (pg_name (i := 5) sc_read_letter.nd rfl (Or.inl rfl)) pgs_nil))))))
      (pss_cons (ps_if (PW.pt (pw_or (pt_cmpR op_gt (pe_callB call_len_str (by rfl) T.n_len PySem.boot_len (pa_cons (pv 5) pa_nil)) (pe_glob (by rfl) T.g_LONGEST_NUMBER T.r_LONGEST_NUMBER) (nomark _)) (pw_or1 (pt_not (pt_val (pe_bm0 PySem.F.plainAttrs_str PySem.F.slot_str_isdigit PySem.F.type_str_isdigit mt_isdigit (pv 5))))))) 
        (pss_one (ps_raise rfl (takes_of rfl rfl rfl rfl) (pmk_own PySem.F.excBase_ValueError (T.exx .damaged) (T.exg .damaged) (T.exk .damaged) (raises_own (T.exb .damaged) (T.ext .damaged)) (by rfl)))) pss_nil)
      (pss_cons (ps_set (i := 6) sc_read_letter.nd rfl (Or.inl rfl) (pe_tup (pa_cons (pv 2) (pa_cons (pv 3) (pa_cons (pv 4) (pa_cons (pe_callTy call_int_str (by rfl) T.n_int (by decide +kernel) (pa_cons (pv 5) pa_nil)) (pa_cons (pe_slice sl_list (pv 1) (po_some pe_int) (po_some (pe_un un_neg pe_int))) pa_nil)))))))
      (pss_cons (ps_if (pt_not (pt_val (pe_call (ok_is_written T) (hr.mono (by decide : 5 ≤ _)) (by rfl) T.g_is_written T.F_is_written.kp T.b_is_written .nil pass0 (pa_cons (pv 6) (pa_cons (pv 0) pa_nil))))) 
        (pss_one (ps_raise rfl (takes_of rfl rfl rfl rfl) (pmk_own PySem.F.excBase_ValueError (T.exx .damaged) (T.exg .damaged) (T.exk .damaged) (raises_own (T.exb .damaged) (T.ext .damaged)) (by rfl)))) pss_nil)
      (pss_one (ps_ret (pv 6)))))))))) (fun xa => ?_) h
  exact (Mi.sS_seq (Mi.sS_asg (vs := [1]) (Mi.sE_frz (Mi.sN_split Mi.sE_var Mi.sE_c)) (Mi.sG_name (by decide))) 
    (Mi.sS_seq (Mi.sS_if (Mi.sT_not (Mi.sT_B (Mi.sE_chain Mi.pk_le Mi.pk_le Mi.sE_c (Mi.sE_pkC Mi.pk_lenQ (Mi.sA_cons Mi.sE_var Mi.sA_nil)) (Mi.sE_pk Mi.pk_add Mi.sE_c Mi.sE_c)))) (Mi.sS_raise (fun _ _ _ h => h)) Mi.sS_next) 
    (Mi.sS_seq (Mi.sS_asg (vs := [2, 3, 4, 5]) (Mi.sE_frz (Mi.sN_slL Mi.sE_var Mi.sO_none (Mi.sO_some Mi.sE_c))) (Mi.sG_lst (Mi.sGs_cons (Mi.sG_name (by decide)) (Mi.sGs_cons (Mi.sG_name (by decide)) (Mi.sGs_cons (Mi.sG_name (by decide)) (Mi.sGs_cons (Mi.sG_name (by decide)) Mi.sGs_nil)))))) 
    (Mi.sS_seq (Mi.sS_if (Mi.sT_or (Mi.sT_test (Mi.sE_pk Mi.pk_gt (Mi.sE_pkC Mi.pk_lenS (Mi.sA_cons Mi.sE_var Mi.sA_nil)) Mi.sE_c)) (Mi.sT_not (Mi.sT_B (Mi.sE_tBM0 Mi.pk_isdigit Mi.sE_var)))) (Mi.sS_raise (fun _ _ _ h => h)) Mi.sS_next) 
    (Mi.sS_seq (Mi.sS_asg (vs := [6]) (Mi.sE_tup (Mi.sA_cons (Mi.sE_d Mi.sE_var) (Mi.sA_cons (Mi.sE_d Mi.sE_var) (Mi.sA_cons (Mi.sE_d Mi.sE_var) (Mi.sA_cons (Mi.sE_d (Mi.sE_pkC Mi.pk_intS (Mi.sA_cons Mi.sE_var Mi.sA_nil))) (Mi.sA_cons (Mi.sE_d (Mi.sE_box (Mi.sN_slL Mi.sE_var (Mi.sO_some Mi.sE_c) (Mi.sO_some (Mi.sE_un Mi.pk_neg Mi.sE_c))))) Mi.sA_nil)))))) (Mi.sG_name (by decide))) 
    (Mi.sS_seq (Mi.sS_if (Mi.sT_not (Mi.sT_B (Mi.sE_call (fun _ _ _ h _ => (Mi.hE0 h).elim) (Mi.sA_cons Mi.sE_var (Mi.sA_cons (Mi.sE_d Mi.sE_var) Mi.sA_nil))))) (Mi.sS_raise (fun _ _ _ h => h)) Mi.sS_next) 
    (Mi.sS_ret Mi.sE_var)))))))
theorem ok_L_damaged (T : Txt K mg) : FnOk P w K mg base CX0 7 T.a__law_damaged T.d__law_damaged ["text"] (Mi.spM K cl0 T.exa 1 m_L_damaged) := by
  refine T.F__law_damaged.ok sc_L_damaged (fun vs H Q E h => h.1) (fun cdv A outer s H vs Q E hr h => ?_)
  refine Mi.fin0 (ex := T.exa) (X := E) (
      (pss_cons (ps_try_as (i := 1) rfl rfl sc_L_damaged.nd rfl rfl ⟨rfl, by decide, .inl T.g_BankError⟩ takes0 (fun W pn xe tk hpo => by exact (
          (pss_one (ps_expr (pe_callS (ok_read_letter T) (hr.mono (by decide : 6 ≤ _)) (by rfl) T.g_read_letter T.F_read_letter.kp T.b_read_letter (fun σ => passAt tk σ) (pa_cons (pv 0) pa_nil)))))) (fun a oe cls d pn hz hf => by exact (
          (pss_one (ps_ret (pe_cmpR (Mi.op_eqK (K := K) hr.units) (Kv.pe_kinds (ok_L_errors T) hz hf List.mem_cons_self ⟨(hr.mono (by decide : 1 ≤ _)).dp, (hr.mono (by decide : 1 ≤ _)).un⟩ (by rfl) T.g__law_errors T.F__law_errors.kp T.b__law_errors (pa_cons (pv 1) pa_nil)) (pe_lst (pa_cons pe_str pa_nil)) (nomark _)))))))
      (pss_one (ps_ret pe_bl)))) (fun xa => ?_) h
  exact (Mi.sS_seq (Mi.sS_try (ex := T.exa) (hit := (fun _ => true)) (fun W => (Mi.sS_drop (Mi.sE_callS (fun _ _ _ _ h => h) (Mi.sA_cons (Mi.sE_d Mi.sE_var) Mi.sA_nil)))) (fun a er => (Mi.sS_ret (Mi.sE_pk Mi.pk_eqD (Mi.sE_kinds (T := T.toErrs) Mi.sE_var) (Mi.sE_frz (Mi.sN_lst (Mi.sA_cons Mi.sE_c Mi.sA_nil)))))) (fun er => by cases er <;> first | exact T.exm _ | exact T.exm _ (by decide)) (fun _ _ _ h => h)) 
    (Mi.sS_ret Mi.sE_c))
theorem ok_lawM (T : Txt K mg) : FnOk P w K mg base CX0 8 T.a_law T.d_law ["script"] (Mi.spM K cl0 T.exa 1 m_law) := by
  refine T.F_law.ok sc_law (fun vs H Q E h => h.1) (fun cdv A outer s H vs Q E hr h => ?_)
  refine Mi.fin0 (ex := T.exa) (X := E) (
      (pss_cons (ps_set (i := 1) sc_law.nd rfl (Or.inl rfl) (pe_call (ok_L_letter T) (hr.mono (by decide : 3 ≤ _)) (by rfl) T.g__law_letter T.F__law_letter.kp T.b__law_letter .nil pass0 (pa_cons (pe_call (ok_L_source T) (hr.mono (by decide : 1 ≤ _)) (by rfl) T.g__law_source T.F__law_source.kp T.b__law_source .nil pass0 (pa_cons (pe_call (ok_L_cell T) (hr.mono (by decide : 1 ≤ _)) (by rfl) T.g__law_cell T.F__law_cell.kp T.b__law_cell .nil pass0 (pa_cons (pv 0) (pa_cons pe_int pa_nil))) (pa_cons pe_int pa_nil))) (pa_cons (pe_call (ok_L_source T) (hr.mono (by decide : 1 ≤ _)) (by rfl) T.g__law_source T.F__law_source.kp T.b__law_source .nil pass0 (pa_cons (pe_call (ok_L_cell T) (hr.mono (by decide : 1 ≤ _)) (by rfl) T.g__law_cell T.F__law_cell.kp T.b__law_cell .nil pass0 (pa_cons (pv 0) (pa_cons pe_int pa_nil))) (pa_cons pe_int pa_nil))) pa_nil))))
      (pss_cons (ps_set (i := 2) sc_law.nd rfl (Or.inl rfl) (pe_callTy call_list_of (by rfl) T.n_list (by decide +kernel) (pa_cons (pe_ix ix_tup (pv 1) pe_int (fun _ _ => rfl)) pa_nil)))
      (pss_cons (ps_set (i := 3) sc_law.nd rfl (Or.inl rfl) (pe_call (ok_L_written T) (hr.mono (by decide : 2 ≤ _)) (by rfl) T.g__law_written T.F__law_written.kp T.b__law_written .nil pass0 (pa_cons (pe_ix ix_tup (pv 1) pe_int (fun _ _ => rfl)) (pa_cons (pe_ix ix_tup (pv 1) pe_int (fun _ _ => rfl)) (pa_cons (pe_ix ix_tup (pv 1) pe_int (fun _ _ => rfl)) (pa_cons (pe_callTy call_str_int (by rfl) T.n_str (by decide +kernel) (pa_cons (pe_ix ix_tup (pv 1) pe_int (fun _ _ => rfl)) pa_nil)) (pa_cons (pv 2) pa_nil)))))))
      (pss_cons (ps_set (i := 4) sc_law.nd rfl (Or.inl rfl) (pe_call (ok_read_letter T) (hr.mono (by decide : 6 ≤ _)) (by rfl) T.g_read_letter T.F_read_letter.kp T.b_read_letter .nil passL (pa_cons (pv 3) pa_nil)))
      (pss_cons (ps_if (PW.pt (pw_or (pt_not (pt_val (pe_call (ok_L_is_letter T) (hr.mono (by decide : 1 ≤ _)) (by rfl) T.g__law_is_letter T.F__law_is_letter.kp T.b__law_is_letter .nil pass0 (pa_cons (pv 4) (pa_cons (pv 1) pa_nil))))) (pw_or1 (pt_cmpR op_ne (pe_call (ok_write_letter T) (hr.mono (by decide : 4 ≤ _)) (by rfl) T.g_write_letter T.F_write_letter.kp T.b_write_letter .nil passL (pa_cons (pv 4) pa_nil)) (pv 3) (nomark _))))) 
        (pss_one (ps_ret pe_bl)) pss_nil)
      (pss_cons (ps_expr (pe_bm PySem.F.plainAttrs_list PySem.F.slot_list_append PySem.F.type_list_append mt_append (pe_ix ix_tup (pv 4) pe_int (fun _ _ => rfl)) (pa_cons pe_str pa_nil)))
      (pss_cons (ps_if (pt_cmpR op_gt (pe_callB call_len_seq (by rfl) T.n_len PySem.boot_len (pa_cons (pv 2) pa_nil)) pe_int (nomark _)) 
        (pss_one (ps_asg pe_str (pg_sub (pe_ix ix_tup (pv 4) pe_int (fun _ _ => rfl)) pe_int set_list))) pss_nil)
      (pss_cons (ps_for PassesOwn.never rfl (pi_range1 (by rfl) T.n_range (pa_cons pe_int pa_nil)) (pg_name (i := 5) sc_law.nd rfl (Or.inl rfl)) 
        (pss_one (ps_if (pt_not (pt_val (pe_call (ok_L_damaged T) (hr.mono (by decide : 7 ≤ _)) (by rfl) T.g__law_damaged T.F__law_damaged.kp T.b__law_damaged .nil pass0 (pa_cons (pe_call (ok_L_odd_text T) (hr.mono (by decide : 5 ≤ _)) (by rfl) T.g__law_odd_text T.F__law_odd_text.kp T.b__law_odd_text .nil pass0 (pa_cons (pe_call (ok_L_source T) (hr.mono (by decide : 1 ≤ _)) (by rfl) T.g__law_source T.F__law_source.kp T.b__law_source .nil pass0 (pa_cons (pe_call (ok_L_cell T) (hr.mono (by decide : 1 ≤ _)) (by rfl) T.g__law_cell T.F__law_cell.kp T.b__law_cell .nil pass0 (pa_cons (pv 0) (pa_cons (pe_op op_add pe_int (pv 5)) pa_nil))) (pa_cons (pe_op op_add pe_int (pv 5)) pa_nil))) (pa_cons (pv 1) pa_nil))) pa_nil)))) 
          (pss_one (ps_ret pe_bl)) pss_nil)))
      (pss_one (ps_ret (pe_call (ok_L_is_letter T) (hr.mono (by decide : 1 ≤ _)) (by rfl) T.g__law_is_letter T.F__law_is_letter.kp T.b__law_is_letter .nil pass0 (pa_cons (pe_call (ok_read_letter T) (hr.mono (by decide : 6 ≤ _)) (by rfl) T.g_read_letter T.F_read_letter.kp T.b_read_letter .nil passL (pa_cons (pv 3) pa_nil)) (pa_cons (pv 1) pa_nil)))))))))))))) (fun xa => ?_) h
  exact (Mi.sS_seq (Mi.sS_asg (vs := [1]) (Mi.sE_call (fun _ _ _ h _ => (Mi.hE0 h).elim) (Mi.sA_consN (Mi.sN_call (fun _ _ _ h _ => (Mi.hE0 h).elim) (Mi.sA_cons (Mi.sE_d (Mi.sE_call (fun _ _ _ h _ => (Mi.hE0 h).elim) (Mi.sA_cons Mi.sE_var (Mi.sA_cons Mi.sE_c Mi.sA_nil)))) (Mi.sA_cons Mi.sE_c Mi.sA_nil))) (Mi.sA_consN (Mi.sN_call (fun _ _ _ h _ => (Mi.hE0 h).elim) (Mi.sA_cons (Mi.sE_d (Mi.sE_call (fun _ _ _ h _ => (Mi.hE0 h).elim) (Mi.sA_cons Mi.sE_var (Mi.sA_cons Mi.sE_c Mi.sA_nil)))) (Mi.sA_cons Mi.sE_c Mi.sA_nil))) Mi.sA_nil))) (Mi.sG_name (by decide))) 
    (Mi.sS_seq (Mi.sS_asg (vs := [2]) (Mi.sE_frz (Mi.sN_C Mi.pk_listOf (Mi.sA_cons (Mi.sE_pk Mi.pk_ixT Mi.sE_var Mi.sE_c) Mi.sA_nil))) (Mi.sG_name (by decide))) 
    (Mi.sS_seq (Mi.sS_asg (vs := [3]) (Mi.sE_call (fun _ _ _ h _ => (Mi.hE0 h).elim) (Mi.sA_cons (Mi.sE_d (Mi.sE_pk Mi.pk_ixT Mi.sE_var Mi.sE_c)) (Mi.sA_cons (Mi.sE_d (Mi.sE_pk Mi.pk_ixT Mi.sE_var Mi.sE_c)) (Mi.sA_cons (Mi.sE_d (Mi.sE_pk Mi.pk_ixT Mi.sE_var Mi.sE_c)) (Mi.sA_cons (Mi.sE_d (Mi.sE_pkC Mi.pk_strI (Mi.sA_cons (Mi.sE_pk Mi.pk_ixT Mi.sE_var Mi.sE_c) Mi.sA_nil))) (Mi.sA_cons Mi.sE_var Mi.sA_nil)))))) (Mi.sG_name (by decide))) 
    (Mi.sS_seq (Mi.sS_asg (vs := [4]) (Mi.sE_call (fun _ _ _ _ h => h) (Mi.sA_cons (Mi.sE_d Mi.sE_var) Mi.sA_nil)) (Mi.sG_name (by decide))) 
    (Mi.sS_seq (Mi.sS_if (Mi.sT_or (Mi.sT_not (Mi.sT_B (Mi.sE_call (fun _ _ _ h _ => (Mi.hE0 h).elim) (Mi.sA_cons Mi.sE_var (Mi.sA_cons Mi.sE_var Mi.sA_nil))))) (Mi.sT_test (Mi.sE_pk Mi.pk_ne (Mi.sE_call (fun _ _ _ _ h => h) (Mi.sA_cons Mi.sE_var Mi.sA_nil)) Mi.sE_var))) (Mi.sS_ret Mi.sE_c) Mi.sS_next) 
    (Mi.sS_seq (Mi.sS_drop (Mi.sE_mut Mi.pk_append (Mi.sE_pk Mi.pk_ixT Mi.sE_var Mi.sE_c) (Mi.sA_cons Mi.sE_c Mi.sA_nil))) 
    (Mi.sS_seq (Mi.sS_if (Mi.sT_test (Mi.sE_pk Mi.pk_gt (Mi.sE_pkC Mi.pk_lenQ (Mi.sA_cons Mi.sE_var Mi.sA_nil)) Mi.sE_c)) (Mi.sS_asg (vs := []) Mi.sE_c (Mi.sG_sub (Mi.sE_pk Mi.pk_ixT Mi.sE_var Mi.sE_c) Mi.sE_c)) Mi.sS_next) 
    (Mi.sS_seq (Mi.sS_for (vs := [5]) (Mi.sI_rng1 (Mi.sA_cons Mi.sE_c Mi.sA_nil)) (Mi.sG_name (by decide)) (Mi.sS_if (Mi.sT_not (Mi.sT_B (Mi.sE_call (fun _ _ _ h _ => (Mi.hE0 h).elim) (Mi.sA_cons (Mi.sE_d (Mi.sE_call (fun _ _ _ h _ => (Mi.hE0 h).elim) (Mi.sA_consN (Mi.sN_call (fun _ _ _ h _ => (Mi.hE0 h).elim) (Mi.sA_cons (Mi.sE_d (Mi.sE_call (fun _ _ _ h _ => (Mi.hE0 h).elim) (Mi.sA_cons Mi.sE_var (Mi.sA_cons (Mi.sE_d (Mi.sE_pk Mi.pk_add Mi.sE_c Mi.sE_var)) Mi.sA_nil)))) (Mi.sA_cons (Mi.sE_d (Mi.sE_pk Mi.pk_add Mi.sE_c Mi.sE_var)) Mi.sA_nil))) (Mi.sA_cons Mi.sE_var Mi.sA_nil)))) Mi.sA_nil)))) (Mi.sS_ret Mi.sE_c) Mi.sS_next)) 
    (Mi.sS_ret (Mi.sE_call (fun _ _ _ h _ => (Mi.hE0 h).elim) (Mi.sA_cons (Mi.sE_d (Mi.sE_call (fun _ _ _ _ h => h) (Mi.sA_cons (Mi.sE_d Mi.sE_var) Mi.sA_nil))) (Mi.sA_cons Mi.sE_var Mi.sA_nil))))))))))))
theorem ok_law (T : Txt K mg) : FnOk P w K mg base CX0 8 T.a_law T.d_law ["script"] (Kv.spLaw K) := (ok_lawM T).imp (Mi.law_imp law_true)
end
theorem txt_mk {K : PySem.W.Frag} {mg : Str → Option Value} {h : Heap} (X : K.In h) (G : h.Ns mainGlobals mg)
    {C_BadValue : Addr}
    {C_BadDay : Addr}
    {C_Missing : Addr}
    {C_Refused : Addr}
    {C_Full : Addr}
    {C_NotAllowed : Addr}
    {C_Damaged : Addr}
    {C_BankError : Addr}
    {f_is_name : Addr} {od_is_name an_is_name : Option Addr} {sl_is_name : Array (Option Value)} {oc_is_name kV_is_name dc_is_name pm_is_name cd_is_name ct_is_name : Value}
    {f_check_name : Addr} {od_check_name an_check_name : Option Addr} {sl_check_name : Array (Option Value)} {oc_check_name kV_check_name dc_check_name pm_check_name cd_check_name ct_check_name : Value}
    {f_check_fields : Addr} {od_check_fields an_check_fields : Option Addr} {sl_check_fields : Array (Option Value)} {oc_check_fields kV_check_fields dc_check_fields pm_check_fields cd_check_fields ct_check_fields : Value}
    {f_check_letter : Addr} {od_check_letter an_check_letter : Option Addr} {sl_check_letter : Array (Option Value)} {oc_check_letter kV_check_letter dc_check_letter pm_check_letter cd_check_letter ct_check_letter : Value}
    {f_check_digits_of : Addr} {od_check_digits_of an_check_digits_of : Option Addr} {sl_check_digits_of : Array (Option Value)} {oc_check_digits_of kV_check_digits_of dc_check_digits_of pm_check_digits_of cd_check_digits_of ct_check_digits_of : Value}
    {f_write_letter : Addr} {od_write_letter an_write_letter : Option Addr} {sl_write_letter : Array (Option Value)} {oc_write_letter kV_write_letter dc_write_letter pm_write_letter cd_write_letter ct_write_letter : Value}
    {f_is_written : Addr} {od_is_written an_is_written : Option Addr} {sl_is_written : Array (Option Value)} {oc_is_written kV_is_written dc_is_written pm_is_written cd_is_written ct_is_written : Value}
    {f_read_letter : Addr} {od_read_letter an_read_letter : Option Addr} {sl_read_letter : Array (Option Value)} {oc_read_letter kV_read_letter dc_read_letter pm_read_letter cd_read_letter ct_read_letter : Value}
    {f__law_cell : Addr} {od__law_cell an__law_cell : Option Addr} {sl__law_cell : Array (Option Value)} {oc__law_cell kV__law_cell dc__law_cell pm__law_cell cd__law_cell ct__law_cell : Value}
    {f__law_source : Addr} {od__law_source an__law_source : Option Addr} {sl__law_source : Array (Option Value)} {oc__law_source kV__law_source dc__law_source pm__law_source cd__law_source ct__law_source : Value}
    {f__law_pick : Addr} {od__law_pick an__law_pick : Option Addr} {sl__law_pick : Array (Option Value)} {oc__law_pick kV__law_pick dc__law_pick pm__law_pick cd__law_pick ct__law_pick : Value}
    {f__law_name : Addr} {od__law_name an__law_name : Option Addr} {sl__law_name : Array (Option Value)} {oc__law_name kV__law_name dc__law_name pm__law_name cd__law_name ct__law_name : Value}
    {f__law_text : Addr} {od__law_text an__law_text : Option Addr} {sl__law_text : Array (Option Value)} {oc__law_text kV__law_text dc__law_text pm__law_text cd__law_text ct__law_text : Value}
    {f__law_check : Addr} {od__law_check an__law_check : Option Addr} {sl__law_check : Array (Option Value)} {oc__law_check kV__law_check dc__law_check pm__law_check cd__law_check ct__law_check : Value}
    {f__law_written : Addr} {od__law_written an__law_written : Option Addr} {sl__law_written : Array (Option Value)} {oc__law_written kV__law_written dc__law_written pm__law_written cd__law_written ct__law_written : Value}
    {f__law_letter : Addr} {od__law_letter an__law_letter : Option Addr} {sl__law_letter : Array (Option Value)} {oc__law_letter kV__law_letter dc__law_letter pm__law_letter cd__law_letter ct__law_letter : Value}
    {f__law_bad_name : Addr} {od__law_bad_name an__law_bad_name : Option Addr} {sl__law_bad_name : Array (Option Value)} {oc__law_bad_name kV__law_bad_name dc__law_bad_name pm__law_bad_name cd__law_bad_name ct__law_bad_name : Value}
    {f__law_errors : Addr} {od__law_errors an__law_errors : Option Addr} {sl__law_errors : Array (Option Value)} {oc__law_errors kV__law_errors dc__law_errors pm__law_errors cd__law_errors ct__law_errors : Value}
    {f__law_is_letter : Addr} {od__law_is_letter an__law_is_letter : Option Addr} {sl__law_is_letter : Array (Option Value)} {oc__law_is_letter kV__law_is_letter dc__law_is_letter pm__law_is_letter cd__law_is_letter ct__law_is_letter : Value}
    {f__law_odd_digits : Addr} {od__law_odd_digits an__law_odd_digits : Option Addr} {sl__law_odd_digits : Array (Option Value)} {oc__law_odd_digits kV__law_odd_digits dc__law_odd_digits pm__law_odd_digits cd__law_odd_digits ct__law_odd_digits : Value}
    {f__law_odd_parts : Addr} {od__law_odd_parts an__law_odd_parts : Option Addr} {sl__law_odd_parts : Array (Option Value)} {oc__law_odd_parts kV__law_odd_parts dc__law_odd_parts pm__law_odd_parts cd__law_odd_parts ct__law_odd_parts : Value}
    {f__law_odd_text : Addr} {od__law_odd_text an__law_odd_text : Option Addr} {sl__law_odd_text : Array (Option Value)} {oc__law_odd_text kV__law_odd_text dc__law_odd_text pm__law_odd_text cd__law_odd_text ct__law_odd_text : Value}
    {f__law_damaged : Addr} {od__law_damaged an__law_damaged : Option Addr} {sl__law_damaged : Array (Option Value)} {oc__law_damaged kV__law_damaged dc__law_damaged pm__law_damaged cd__law_damaged ct__law_damaged : Value}
    {f_law : Addr} {od_law an_law : Option Addr} {sl_law : Array (Option Value)} {oc_law kV_law dc_law pm_law cd_law ct_law : Value}
    {w_LETTERS : Value}
    {w_DIGITS : Value}
    {w_LONGEST_NAME : Value}
    {w_GREATEST_NUMBER : Value}
    {w_LONGEST_NUMBER : Value}
    {w_MOST_FIELDS : Value}
    {w_LONGEST_FIELD : Value}
    {w_MODULUS : Value}
    {w_CHECK_DIGITS : Value}
    {w_OTHER_PARTS : Value}
    (e_BadValue : PySem.W.nsIn K mainGlobals "BadValue" = some (some (.ref C_BadValue)))
    (e_BadDay : PySem.W.nsIn K mainGlobals "BadDay" = some (some (.ref C_BadDay)))
    (e_Missing : PySem.W.nsIn K mainGlobals "Missing" = some (some (.ref C_Missing)))
    (e_Refused : PySem.W.nsIn K mainGlobals "Refused" = some (some (.ref C_Refused)))
    (e_Full : PySem.W.nsIn K mainGlobals "Full" = some (some (.ref C_Full)))
    (e_NotAllowed : PySem.W.nsIn K mainGlobals "NotAllowed" = some (some (.ref C_NotAllowed)))
    (e_Damaged : PySem.W.nsIn K mainGlobals "Damaged" = some (some (.ref C_Damaged)))
    (e_BankError : PySem.W.nsIn K mainGlobals "BankError" = some (some (.ref C_BankError)))
    (eAll : Kv.errAll K (fun e => match e with | .badValue => C_BadValue | .badDay => C_BadDay | .missing => C_Missing | .refused => C_Refused | .full => C_Full | .notAllowed => C_NotAllowed | .damaged => C_Damaged) C_BankError = true)
    (a_is_name : PySem.W.nsIn K mainGlobals "is_name" = some (some (.ref f_is_name)))
    (l_is_name : K.lookup f_is_name = some ⟨oc_is_name, od_is_name, .func (PySem.W.fnOf "is_name" "is_name" (defArgs s_is_name) (defBody s_is_name) (defScope s_is_name) .none kV_is_name dc_is_name pm_is_name an_is_name cd_is_name ct_is_name), sl_is_name⟩)
    (c_is_name : PySem.W.codeIn K cd_is_name "is_name" = true)
    (k_is_name : PySem.W.keepIn K (.ref f_is_name) = true)
    (a_check_name : PySem.W.nsIn K mainGlobals "check_name" = some (some (.ref f_check_name)))
    (l_check_name : K.lookup f_check_name = some ⟨oc_check_name, od_check_name, .func (PySem.W.fnOf "check_name" "check_name" (defArgs s_check_name) (defBody s_check_name) (defScope s_check_name) .none kV_check_name dc_check_name pm_check_name an_check_name cd_check_name ct_check_name), sl_check_name⟩)
    (c_check_name : PySem.W.codeIn K cd_check_name "check_name" = true)
    (k_check_name : PySem.W.keepIn K (.ref f_check_name) = true)
    (a_check_fields : PySem.W.nsIn K mainGlobals "check_fields" = some (some (.ref f_check_fields)))
    (l_check_fields : K.lookup f_check_fields = some ⟨oc_check_fields, od_check_fields, .func (PySem.W.fnOf "check_fields" "check_fields" (defArgs s_check_fields) (defBody s_check_fields) (defScope s_check_fields) .none kV_check_fields dc_check_fields pm_check_fields an_check_fields cd_check_fields ct_check_fields), sl_check_fields⟩)
    (c_check_fields : PySem.W.codeIn K cd_check_fields "check_fields" = true)
    (k_check_fields : PySem.W.keepIn K (.ref f_check_fields) = true)
    (a_check_letter : PySem.W.nsIn K mainGlobals "check_letter" = some (some (.ref f_check_letter)))
    (l_check_letter : K.lookup f_check_letter = some ⟨oc_check_letter, od_check_letter, .func (PySem.W.fnOf "check_letter" "check_letter" (defArgs s_check_letter) (defBody s_check_letter) (defScope s_check_letter) .none kV_check_letter dc_check_letter pm_check_letter an_check_letter cd_check_letter ct_check_letter), sl_check_letter⟩)
    (c_check_letter : PySem.W.codeIn K cd_check_letter "check_letter" = true)
    (k_check_letter : PySem.W.keepIn K (.ref f_check_letter) = true)
    (a_check_digits_of : PySem.W.nsIn K mainGlobals "check_digits_of" = some (some (.ref f_check_digits_of)))
    (l_check_digits_of : K.lookup f_check_digits_of = some ⟨oc_check_digits_of, od_check_digits_of, .func (PySem.W.fnOf "check_digits_of" "check_digits_of" (defArgs s_check_digits_of) (defBody s_check_digits_of) (defScope s_check_digits_of) .none kV_check_digits_of dc_check_digits_of pm_check_digits_of an_check_digits_of cd_check_digits_of ct_check_digits_of), sl_check_digits_of⟩)
    (c_check_digits_of : PySem.W.codeIn K cd_check_digits_of "check_digits_of" = true)
    (k_check_digits_of : PySem.W.keepIn K (.ref f_check_digits_of) = true)
    (a_write_letter : PySem.W.nsIn K mainGlobals "write_letter" = some (some (.ref f_write_letter)))
    (l_write_letter : K.lookup f_write_letter = some ⟨oc_write_letter, od_write_letter, .func (PySem.W.fnOf "write_letter" "write_letter" (defArgs s_write_letter) (defBody s_write_letter) (defScope s_write_letter) .none kV_write_letter dc_write_letter pm_write_letter an_write_letter cd_write_letter ct_write_letter), sl_write_letter⟩)
    (c_write_letter : PySem.W.codeIn K cd_write_letter "write_letter" = true)
    (k_write_letter : PySem.W.keepIn K (.ref f_write_letter) = true)
    (a_is_written : PySem.W.nsIn K mainGlobals "is_written" = some (some (.ref f_is_written)))
    (l_is_written : K.lookup f_is_written = some ⟨oc_is_written, od_is_written, .func (PySem.W.fnOf "is_written" "is_written" (defArgs s_is_written) (defBody s_is_written) (defScope s_is_written) .none kV_is_written dc_is_written pm_is_written an_is_written cd_is_written ct_is_written), sl_is_written⟩)
    (c_is_written : PySem.W.codeIn K cd_is_written "is_written" = true)
    (k_is_written : PySem.W.keepIn K (.ref f_is_written) = true)
    (a_read_letter : PySem.W.nsIn K mainGlobals "read_letter" = some (some (.ref f_read_letter)))
    (l_read_letter : K.lookup f_read_letter = some ⟨oc_read_letter, od_read_letter, .func (PySem.W.fnOf "read_letter" "read_letter" (defArgs s_read_letter) (defBody s_read_letter) (defScope s_read_letter) .none kV_read_letter dc_read_letter pm_read_letter an_read_letter cd_read_letter ct_read_letter), sl_read_letter⟩)
    (c_read_letter : PySem.W.codeIn K cd_read_letter "read_letter" = true)
    (k_read_letter : PySem.W.keepIn K (.ref f_read_letter) = true)
    (a__law_cell : PySem.W.nsIn K mainGlobals "_law_cell" = some (some (.ref f__law_cell)))
    (l__law_cell : K.lookup f__law_cell = some ⟨oc__law_cell, od__law_cell, .func (PySem.W.fnOf "_law_cell" "_law_cell" (defArgs s_L_cell) (defBody s_L_cell) (defScope s_L_cell) .none kV__law_cell dc__law_cell pm__law_cell an__law_cell cd__law_cell ct__law_cell), sl__law_cell⟩)
    (c__law_cell : PySem.W.codeIn K cd__law_cell "_law_cell" = true)
    (k__law_cell : PySem.W.keepIn K (.ref f__law_cell) = true)
    (a__law_source : PySem.W.nsIn K mainGlobals "_law_source" = some (some (.ref f__law_source)))
    (l__law_source : K.lookup f__law_source = some ⟨oc__law_source, od__law_source, .func (PySem.W.fnOf "_law_source" "_law_source" (defArgs s_L_source) (defBody s_L_source) (defScope s_L_source) .none kV__law_source dc__law_source pm__law_source an__law_source cd__law_source ct__law_source), sl__law_source⟩)
    (c__law_source : PySem.W.codeIn K cd__law_source "_law_source" = true)
    (k__law_source : PySem.W.keepIn K (.ref f__law_source) = true)
    (a__law_pick : PySem.W.nsIn K mainGlobals "_law_pick" = some (some (.ref f__law_pick)))
    (l__law_pick : K.lookup f__law_pick = some ⟨oc__law_pick, od__law_pick, .func (PySem.W.fnOf "_law_pick" "_law_pick" (defArgs s_L_pick) (defBody s_L_pick) (defScope s_L_pick) .none kV__law_pick dc__law_pick pm__law_pick an__law_pick cd__law_pick ct__law_pick), sl__law_pick⟩)
    (c__law_pick : PySem.W.codeIn K cd__law_pick "_law_pick" = true)
    (k__law_pick : PySem.W.keepIn K (.ref f__law_pick) = true)
    (a__law_name : PySem.W.nsIn K mainGlobals "_law_name" = some (some (.ref f__law_name)))
    (l__law_name : K.lookup f__law_name = some ⟨oc__law_name, od__law_name, .func (PySem.W.fnOf "_law_name" "_law_name" (defArgs s_L_name) (defBody s_L_name) (defScope s_L_name) .none kV__law_name dc__law_name pm__law_name an__law_name cd__law_name ct__law_name), sl__law_name⟩)
    (c__law_name : PySem.W.codeIn K cd__law_name "_law_name" = true)
    (k__law_name : PySem.W.keepIn K (.ref f__law_name) = true)
    (a__law_text : PySem.W.nsIn K mainGlobals "_law_text" = some (some (.ref f__law_text)))
    (l__law_text : K.lookup f__law_text = some ⟨oc__law_text, od__law_text, .func (PySem.W.fnOf "_law_text" "_law_text" (defArgs s_L_text) (defBody s_L_text) (defScope s_L_text) .none kV__law_text dc__law_text pm__law_text an__law_text cd__law_text ct__law_text), sl__law_text⟩)
    (c__law_text : PySem.W.codeIn K cd__law_text "_law_text" = true)
    (k__law_text : PySem.W.keepIn K (.ref f__law_text) = true)
    (a__law_check : PySem.W.nsIn K mainGlobals "_law_check" = some (some (.ref f__law_check)))
    (l__law_check : K.lookup f__law_check = some ⟨oc__law_check, od__law_check, .func (PySem.W.fnOf "_law_check" "_law_check" (defArgs s_L_check) (defBody s_L_check) (defScope s_L_check) .none kV__law_check dc__law_check pm__law_check an__law_check cd__law_check ct__law_check), sl__law_check⟩)
    (c__law_check : PySem.W.codeIn K cd__law_check "_law_check" = true)
    (k__law_check : PySem.W.keepIn K (.ref f__law_check) = true)
    (a__law_written : PySem.W.nsIn K mainGlobals "_law_written" = some (some (.ref f__law_written)))
    (l__law_written : K.lookup f__law_written = some ⟨oc__law_written, od__law_written, .func (PySem.W.fnOf "_law_written" "_law_written" (defArgs s_L_written) (defBody s_L_written) (defScope s_L_written) .none kV__law_written dc__law_written pm__law_written an__law_written cd__law_written ct__law_written), sl__law_written⟩)
    (c__law_written : PySem.W.codeIn K cd__law_written "_law_written" = true)
    (k__law_written : PySem.W.keepIn K (.ref f__law_written) = true)
    (a__law_letter : PySem.W.nsIn K mainGlobals "_law_letter" = some (some (.ref f__law_letter)))
    (l__law_letter : K.lookup f__law_letter = some ⟨oc__law_letter, od__law_letter, .func (PySem.W.fnOf "_law_letter" "_law_letter" (defArgs s_L_letter) (defBody s_L_letter) (defScope s_L_letter) .none kV__law_letter dc__law_letter pm__law_letter an__law_letter cd__law_letter ct__law_letter), sl__law_letter⟩)
    (c__law_letter : PySem.W.codeIn K cd__law_letter "_law_letter" = true)
    (k__law_letter : PySem.W.keepIn K (.ref f__law_letter) = true)
    (a__law_bad_name : PySem.W.nsIn K mainGlobals "_law_bad_name" = some (some (.ref f__law_bad_name)))
    (l__law_bad_name : K.lookup f__law_bad_name = some ⟨oc__law_bad_name, od__law_bad_name, .func (PySem.W.fnOf "_law_bad_name" "_law_bad_name" (defArgs s_L_bad_name) (defBody s_L_bad_name) (defScope s_L_bad_name) .none kV__law_bad_name dc__law_bad_name pm__law_bad_name an__law_bad_name cd__law_bad_name ct__law_bad_name), sl__law_bad_name⟩)
    (c__law_bad_name : PySem.W.codeIn K cd__law_bad_name "_law_bad_name" = true)
    (k__law_bad_name : PySem.W.keepIn K (.ref f__law_bad_name) = true)
    (a__law_errors : PySem.W.nsIn K mainGlobals "_law_errors" = some (some (.ref f__law_errors)))
    (l__law_errors : K.lookup f__law_errors = some ⟨oc__law_errors, od__law_errors, .func (PySem.W.fnOf "_law_errors" "_law_errors" (defArgs s_L_errors) (defBody s_L_errors) (defScope s_L_errors) .none kV__law_errors dc__law_errors pm__law_errors an__law_errors cd__law_errors ct__law_errors), sl__law_errors⟩)
    (c__law_errors : PySem.W.codeIn K cd__law_errors "_law_errors" = true)
    (k__law_errors : PySem.W.keepIn K (.ref f__law_errors) = true)
    (a__law_is_letter : PySem.W.nsIn K mainGlobals "_law_is_letter" = some (some (.ref f__law_is_letter)))
    (l__law_is_letter : K.lookup f__law_is_letter = some ⟨oc__law_is_letter, od__law_is_letter, .func (PySem.W.fnOf "_law_is_letter" "_law_is_letter" (defArgs s_L_is_letter) (defBody s_L_is_letter) (defScope s_L_is_letter) .none kV__law_is_letter dc__law_is_letter pm__law_is_letter an__law_is_letter cd__law_is_letter ct__law_is_letter), sl__law_is_letter⟩)
    (c__law_is_letter : PySem.W.codeIn K cd__law_is_letter "_law_is_letter" = true)
    (k__law_is_letter : PySem.W.keepIn K (.ref f__law_is_letter) = true)
    (a__law_odd_digits : PySem.W.nsIn K mainGlobals "_law_odd_digits" = some (some (.ref f__law_odd_digits)))
    (l__law_odd_digits : K.lookup f__law_odd_digits = some ⟨oc__law_odd_digits, od__law_odd_digits, .func (PySem.W.fnOf "_law_odd_digits" "_law_odd_digits" (defArgs s_L_odd_digits) (defBody s_L_odd_digits) (defScope s_L_odd_digits) .none kV__law_odd_digits dc__law_odd_digits pm__law_odd_digits an__law_odd_digits cd__law_odd_digits ct__law_odd_digits), sl__law_odd_digits⟩)
    (c__law_odd_digits : PySem.W.codeIn K cd__law_odd_digits "_law_odd_digits" = true)
    (k__law_odd_digits : PySem.W.keepIn K (.ref f__law_odd_digits) = true)
    (a__law_odd_parts : PySem.W.nsIn K mainGlobals "_law_odd_parts" = some (some (.ref f__law_odd_parts)))
    (l__law_odd_parts : K.lookup f__law_odd_parts = some ⟨oc__law_odd_parts, od__law_odd_parts, .func (PySem.W.fnOf "_law_odd_parts" "_law_odd_parts" (defArgs s_L_odd_parts) (defBody s_L_odd_parts) (defScope s_L_odd_parts) .none kV__law_odd_parts dc__law_odd_parts pm__law_odd_parts an__law_odd_parts cd__law_odd_parts ct__law_odd_parts), sl__law_odd_parts⟩)
    (c__law_odd_parts : PySem.W.codeIn K cd__law_odd_parts "_law_odd_parts" = true)
    (k__law_odd_parts : PySem.W.keepIn K (.ref f__law_odd_parts) = true)
    (a__law_odd_text : PySem.W.nsIn K mainGlobals "_law_odd_text" = some (some (.ref f__law_odd_text)))
    (l__law_odd_text : K.lookup f__law_odd_text = some ⟨oc__law_odd_text, od__law_odd_text, .func (PySem.W.fnOf "_law_odd_text" "_law_odd_text" (defArgs s_L_odd_text) (defBody s_L_odd_text) (defScope s_L_odd_text) .none kV__law_odd_text dc__law_odd_text pm__law_odd_text an__law_odd_text cd__law_odd_text ct__law_odd_text), sl__law_odd_text⟩)
    (c__law_odd_text : PySem.W.codeIn K cd__law_odd_text "_law_odd_text" = true)
    (k__law_odd_text : PySem.W.keepIn K (.ref f__law_odd_text) = true)
    (a__law_damaged : PySem.W.nsIn K mainGlobals "_law_damaged" = some (some (.ref f__law_damaged)))
    (l__law_damaged : K.lookup f__law_damaged = some ⟨oc__law_damaged, od__law_damaged, .func (PySem.W.fnOf "_law_damaged" "_law_damaged" (defArgs s_L_damaged) (defBody s_L_damaged) (defScope s_L_damaged) .none kV__law_damaged dc__law_damaged pm__law_damaged an__law_damaged cd__law_damaged ct__law_damaged), sl__law_damaged⟩)
    (c__law_damaged : PySem.W.codeIn K cd__law_damaged "_law_damaged" = true)
    (k__law_damaged : PySem.W.keepIn K (.ref f__law_damaged) = true)
    (a_law : PySem.W.nsIn K mainGlobals "law" = some (some (.ref f_law)))
    (l_law : K.lookup f_law = some ⟨oc_law, od_law, .func (PySem.W.fnOf "law" "law" (defArgs s_law) (defBody s_law) (defScope s_law) .none kV_law dc_law pm_law an_law cd_law ct_law), sl_law⟩)
    (c_law : PySem.W.codeIn K cd_law "law" = true)
    (k_law : PySem.W.keepIn K (.ref f_law) = true)
    (v_LETTERS : PySem.W.nsIn K mainGlobals "LETTERS" = some (some w_LETTERS))
    (vr_LETTERS : RelV (.str "abcdefghijklmnopqrstuvwxyz") w_LETTERS)
    (v_DIGITS : PySem.W.nsIn K mainGlobals "DIGITS" = some (some w_DIGITS))
    (vr_DIGITS : RelV (.str "0123456789") w_DIGITS)
    (v_LONGEST_NAME : PySem.W.nsIn K mainGlobals "LONGEST_NAME" = some (some w_LONGEST_NAME))
    (vr_LONGEST_NAME : RelV (.int (12)) w_LONGEST_NAME)
    (v_GREATEST_NUMBER : PySem.W.nsIn K mainGlobals "GREATEST_NUMBER" = some (some w_GREATEST_NUMBER))
    (vr_GREATEST_NUMBER : RelV (.int (999999)) w_GREATEST_NUMBER)
    (v_LONGEST_NUMBER : PySem.W.nsIn K mainGlobals "LONGEST_NUMBER" = some (some w_LONGEST_NUMBER))
    (vr_LONGEST_NUMBER : RelV (.int (6)) w_LONGEST_NUMBER)
    (v_MOST_FIELDS : PySem.W.nsIn K mainGlobals "MOST_FIELDS" = some (some w_MOST_FIELDS))
    (vr_MOST_FIELDS : RelV (.int (8)) w_MOST_FIELDS)
    (v_LONGEST_FIELD : PySem.W.nsIn K mainGlobals "LONGEST_FIELD" = some (some w_LONGEST_FIELD))
    (vr_LONGEST_FIELD : RelV (.int (40)) w_LONGEST_FIELD)
    (v_MODULUS : PySem.W.nsIn K mainGlobals "MODULUS" = some (some w_MODULUS))
    (vr_MODULUS : RelV (.int (9973)) w_MODULUS)
    (v_CHECK_DIGITS : PySem.W.nsIn K mainGlobals "CHECK_DIGITS" = some (some w_CHECK_DIGITS))
    (vr_CHECK_DIGITS : RelV (.int (4)) w_CHECK_DIGITS)
    (v_OTHER_PARTS : PySem.W.nsIn K mainGlobals "OTHER_PARTS" = some (some w_OTHER_PARTS))
    (vr_OTHER_PARTS : RelV (.int (5)) w_OTHER_PARTS)
    (n_ValueError : PySem.W.nsIn K mainGlobals "ValueError" = some none)
    (n_all : PySem.W.nsIn K mainGlobals "all" = some none)
    (n_bool : PySem.W.nsIn K mainGlobals "bool" = some none)
    (n_enumerate : PySem.W.nsIn K mainGlobals "enumerate" = some none)
    (n_int : PySem.W.nsIn K mainGlobals "int" = some none)
    (n_isinstance : PySem.W.nsIn K mainGlobals "isinstance" = some none)
    (n_len : PySem.W.nsIn K mainGlobals "len" = some none)
    (n_list : PySem.W.nsIn K mainGlobals "list" = some none)
    (n_ord : PySem.W.nsIn K mainGlobals "ord" = some none)
    (n_range : PySem.W.nsIn K mainGlobals "range" = some none)
    (n_str : PySem.W.nsIn K mainGlobals "str" = some none)
    (n_sum : PySem.W.nsIn K mainGlobals "sum" = some none)
    (n_tuple : PySem.W.nsIn K mainGlobals "tuple" = some none)
    (kve : Kv.veAll K (fun e => match e with | .badValue => C_BadValue | .badDay => C_BadDay | .missing => C_Missing | .refused => C_Refused | .full => C_Full | .notAllowed => C_NotAllowed | .damaged => C_Damaged) = true)
    (xh_badValue : Kv.exhAll K (fun e => match e with | .badValue => C_BadValue | .badDay => C_BadDay | .missing => C_Missing | .refused => C_Refused | .full => C_Full | .notAllowed => C_NotAllowed | .damaged => C_Damaged) .badValue = true) :
    ∃ T : Txt K mg, T.d_law = PySem.W.fnOf "law" "law" (defArgs s_law) (defBody s_law) (defScope s_law) .none kV_law dc_law pm_law an_law cd_law ct_law :=
  ⟨{ exa := fun e => match e with | .badValue => C_BadValue | .badDay => C_BadDay | .missing => C_Missing | .refused => C_Refused | .full => C_Full | .notAllowed => C_NotAllowed | .damaged => C_Damaged,
       exg := fun e => by cases e <;> first | exact PySem.W.mg_of X G e_BadValue | exact PySem.W.mg_of X G e_BadDay | exact PySem.W.mg_of X G e_Missing | exact PySem.W.mg_of X G e_Refused | exact PySem.W.mg_of X G e_Full | exact PySem.W.mg_of X G e_NotAllowed | exact PySem.W.mg_of X G e_Damaged,
       a_BankError := C_BankError,
       g_BankError := PySem.W.mg_of X G e_BankError,
       exAll := eAll,
       a_is_name := f_is_name,
       d_is_name := PySem.W.fnOf "is_name" "is_name" (defArgs s_is_name) (defBody s_is_name) (defScope s_is_name) .none kV_is_name dc_is_name pm_is_name an_is_name cd_is_name ct_is_name,
       g_is_name := PySem.W.mg_of X G a_is_name,
       F_is_name := fun_mk (st := s_is_name) l_is_name c_is_name k_is_name,
       b_is_name := (fun_mk (st := s_is_name) l_is_name c_is_name k_is_name).binds (ps := ["text"]) fun _ _ _ _ _ _ us hl => match us, hl with | [_], _ => rfl,
       a_check_name := f_check_name,
       d_check_name := PySem.W.fnOf "check_name" "check_name" (defArgs s_check_name) (defBody s_check_name) (defScope s_check_name) .none kV_check_name dc_check_name pm_check_name an_check_name cd_check_name ct_check_name,
       g_check_name := PySem.W.mg_of X G a_check_name,
       F_check_name := fun_mk (st := s_check_name) l_check_name c_check_name k_check_name,
       b_check_name := (fun_mk (st := s_check_name) l_check_name c_check_name k_check_name).binds (ps := ["text"]) fun _ _ _ _ _ _ us hl => match us, hl with | [_], _ => rfl,
       a_check_fields := f_check_fields,
       d_check_fields := PySem.W.fnOf "check_fields" "check_fields" (defArgs s_check_fields) (defBody s_check_fields) (defScope s_check_fields) .none kV_check_fields dc_check_fields pm_check_fields an_check_fields cd_check_fields ct_check_fields,
       g_check_fields := PySem.W.mg_of X G a_check_fields,
       F_check_fields := fun_mk (st := s_check_fields) l_check_fields c_check_fields k_check_fields,
       b_check_fields := (fun_mk (st := s_check_fields) l_check_fields c_check_fields k_check_fields).binds (ps := ["fields"]) fun _ _ _ _ _ _ us hl => match us, hl with | [_], _ => rfl,
       a_check_letter := f_check_letter,
       d_check_letter := PySem.W.fnOf "check_letter" "check_letter" (defArgs s_check_letter) (defBody s_check_letter) (defScope s_check_letter) .none kV_check_letter dc_check_letter pm_check_letter an_check_letter cd_check_letter ct_check_letter,
       g_check_letter := PySem.W.mg_of X G a_check_letter,
       F_check_letter := fun_mk (st := s_check_letter) l_check_letter c_check_letter k_check_letter,
       b_check_letter := (fun_mk (st := s_check_letter) l_check_letter c_check_letter k_check_letter).binds (ps := ["letter"]) fun _ _ _ _ _ _ us hl => match us, hl with | [_], _ => rfl,
       a_check_digits_of := f_check_digits_of,
       d_check_digits_of := PySem.W.fnOf "check_digits_of" "check_digits_of" (defArgs s_check_digits_of) (defBody s_check_digits_of) (defScope s_check_digits_of) .none kV_check_digits_of dc_check_digits_of pm_check_digits_of an_check_digits_of cd_check_digits_of ct_check_digits_of,
       g_check_digits_of := PySem.W.mg_of X G a_check_digits_of,
       F_check_digits_of := fun_mk (st := s_check_digits_of) l_check_digits_of c_check_digits_of k_check_digits_of,
       b_check_digits_of := (fun_mk (st := s_check_digits_of) l_check_digits_of c_check_digits_of k_check_digits_of).binds (ps := ["body"]) fun _ _ _ _ _ _ us hl => match us, hl with | [_], _ => rfl,
       a_write_letter := f_write_letter,
       d_write_letter := PySem.W.fnOf "write_letter" "write_letter" (defArgs s_write_letter) (defBody s_write_letter) (defScope s_write_letter) .none kV_write_letter dc_write_letter pm_write_letter an_write_letter cd_write_letter ct_write_letter,
       g_write_letter := PySem.W.mg_of X G a_write_letter,
       F_write_letter := fun_mk (st := s_write_letter) l_write_letter c_write_letter k_write_letter,
       b_write_letter := (fun_mk (st := s_write_letter) l_write_letter c_write_letter k_write_letter).binds (ps := ["letter"]) fun _ _ _ _ _ _ us hl => match us, hl with | [_], _ => rfl,
       a_is_written := f_is_written,
       d_is_written := PySem.W.fnOf "is_written" "is_written" (defArgs s_is_written) (defBody s_is_written) (defScope s_is_written) .none kV_is_written dc_is_written pm_is_written an_is_written cd_is_written ct_is_written,
       g_is_written := PySem.W.mg_of X G a_is_written,
       F_is_written := fun_mk (st := s_is_written) l_is_written c_is_written k_is_written,
       b_is_written := (fun_mk (st := s_is_written) l_is_written c_is_written k_is_written).binds (ps := ["letter", "text"]) fun _ _ _ _ _ _ us hl => match us, hl with | [_, _], _ => rfl,
       a_read_letter := f_read_letter,
       d_read_letter := PySem.W.fnOf "read_letter" "read_letter" (defArgs s_read_letter) (defBody s_read_letter) (defScope s_read_letter) .none kV_read_letter dc_read_letter pm_read_letter an_read_letter cd_read_letter ct_read_letter,
       g_read_letter := PySem.W.mg_of X G a_read_letter,
       F_read_letter := fun_mk (st := s_read_letter) l_read_letter c_read_letter k_read_letter,
       b_read_letter := (fun_mk (st := s_read_letter) l_read_letter c_read_letter k_read_letter).binds (ps := ["text"]) fun _ _ _ _ _ _ us hl => match us, hl with | [_], _ => rfl,
       a__law_cell := f__law_cell,
       d__law_cell := PySem.W.fnOf "_law_cell" "_law_cell" (defArgs s_L_cell) (defBody s_L_cell) (defScope s_L_cell) .none kV__law_cell dc__law_cell pm__law_cell an__law_cell cd__law_cell ct__law_cell,
       g__law_cell := PySem.W.mg_of X G a__law_cell,
       F__law_cell := fun_mk (st := s_L_cell) l__law_cell c__law_cell k__law_cell,
       b__law_cell := (fun_mk (st := s_L_cell) l__law_cell c__law_cell k__law_cell).binds (ps := ["script", "k"]) fun _ _ _ _ _ _ us hl => match us, hl with | [_, _], _ => rfl,
       a__law_source := f__law_source,
       d__law_source := PySem.W.fnOf "_law_source" "_law_source" (defArgs s_L_source) (defBody s_L_source) (defScope s_L_source) .none kV__law_source dc__law_source pm__law_source an__law_source cd__law_source ct__law_source,
       g__law_source := PySem.W.mg_of X G a__law_source,
       F__law_source := fun_mk (st := s_L_source) l__law_source c__law_source k__law_source,
       b__law_source := (fun_mk (st := s_L_source) l__law_source c__law_source k__law_source).binds (ps := ["cell", "k"]) fun _ _ _ _ _ _ us hl => match us, hl with | [_, _], _ => rfl,
       a__law_pick := f__law_pick,
       d__law_pick := PySem.W.fnOf "_law_pick" "_law_pick" (defArgs s_L_pick) (defBody s_L_pick) (defScope s_L_pick) .none kV__law_pick dc__law_pick pm__law_pick an__law_pick cd__law_pick ct__law_pick,
       g__law_pick := PySem.W.mg_of X G a__law_pick,
       F__law_pick := fun_mk (st := s_L_pick) l__law_pick c__law_pick k__law_pick,
       b__law_pick := (fun_mk (st := s_L_pick) l__law_pick c__law_pick k__law_pick).binds (ps := ["source", "many"]) fun _ _ _ _ _ _ us hl => match us, hl with | [_, _], _ => rfl,
       a__law_name := f__law_name,
       d__law_name := PySem.W.fnOf "_law_name" "_law_name" (defArgs s_L_name) (defBody s_L_name) (defScope s_L_name) .none kV__law_name dc__law_name pm__law_name an__law_name cd__law_name ct__law_name,
       g__law_name := PySem.W.mg_of X G a__law_name,
       F__law_name := fun_mk (st := s_L_name) l__law_name c__law_name k__law_name,
       b__law_name := (fun_mk (st := s_L_name) l__law_name c__law_name k__law_name).binds (ps := ["source"]) fun _ _ _ _ _ _ us hl => match us, hl with | [_], _ => rfl,
       a__law_text := f__law_text,
       d__law_text := PySem.W.fnOf "_law_text" "_law_text" (defArgs s_L_text) (defBody s_L_text) (defScope s_L_text) .none kV__law_text dc__law_text pm__law_text an__law_text cd__law_text ct__law_text,
       g__law_text := PySem.W.mg_of X G a__law_text,
       F__law_text := fun_mk (st := s_L_text) l__law_text c__law_text k__law_text,
       b__law_text := (fun_mk (st := s_L_text) l__law_text c__law_text k__law_text).binds (ps := ["source", "most"]) fun _ _ _ _ _ _ us hl => match us, hl with | [_, _], _ => rfl,
       a__law_check := f__law_check,
       d__law_check := PySem.W.fnOf "_law_check" "_law_check" (defArgs s_L_check) (defBody s_L_check) (defScope s_L_check) .none kV__law_check dc__law_check pm__law_check an__law_check cd__law_check ct__law_check,
       g__law_check := PySem.W.mg_of X G a__law_check,
       F__law_check := fun_mk (st := s_L_check) l__law_check c__law_check k__law_check,
       b__law_check := (fun_mk (st := s_L_check) l__law_check c__law_check k__law_check).binds (ps := ["body"]) fun _ _ _ _ _ _ us hl => match us, hl with | [_], _ => rfl,
       a__law_written := f__law_written,
       d__law_written := PySem.W.fnOf "_law_written" "_law_written" (defArgs s_L_written) (defBody s_L_written) (defScope s_L_written) .none kV__law_written dc__law_written pm__law_written an__law_written cd__law_written ct__law_written,
       g__law_written := PySem.W.mg_of X G a__law_written,
       F__law_written := fun_mk (st := s_L_written) l__law_written c__law_written k__law_written,
       b__law_written := (fun_mk (st := s_L_written) l__law_written c__law_written k__law_written).binds (ps := ["kind", "sender", "receiver", "digits", "fields"]) fun _ _ _ _ _ _ us hl => match us, hl with | [_, _, _, _, _], _ => rfl,
       a__law_letter := f__law_letter,
       d__law_letter := PySem.W.fnOf "_law_letter" "_law_letter" (defArgs s_L_letter) (defBody s_L_letter) (defScope s_L_letter) .none kV__law_letter dc__law_letter pm__law_letter an__law_letter cd__law_letter ct__law_letter,
       g__law_letter := PySem.W.mg_of X G a__law_letter,
       F__law_letter := fun_mk (st := s_L_letter) l__law_letter c__law_letter k__law_letter,
       b__law_letter := (fun_mk (st := s_L_letter) l__law_letter c__law_letter k__law_letter).binds (ps := ["source", "more"]) fun _ _ _ _ _ _ us hl => match us, hl with | [_, _], _ => rfl,
       a__law_bad_name := f__law_bad_name,
       d__law_bad_name := PySem.W.fnOf "_law_bad_name" "_law_bad_name" (defArgs s_L_bad_name) (defBody s_L_bad_name) (defScope s_L_bad_name) .none kV__law_bad_name dc__law_bad_name pm__law_bad_name an__law_bad_name cd__law_bad_name ct__law_bad_name,
       g__law_bad_name := PySem.W.mg_of X G a__law_bad_name,
       F__law_bad_name := fun_mk (st := s_L_bad_name) l__law_bad_name c__law_bad_name k__law_bad_name,
       b__law_bad_name := (fun_mk (st := s_L_bad_name) l__law_bad_name c__law_bad_name k__law_bad_name).binds (ps := ["source"]) fun _ _ _ _ _ _ us hl => match us, hl with | [_], _ => rfl,
       a__law_errors := f__law_errors,
       d__law_errors := PySem.W.fnOf "_law_errors" "_law_errors" (defArgs s_L_errors) (defBody s_L_errors) (defScope s_L_errors) .none kV__law_errors dc__law_errors pm__law_errors an__law_errors cd__law_errors ct__law_errors,
       g__law_errors := PySem.W.mg_of X G a__law_errors,
       F__law_errors := fun_mk (st := s_L_errors) l__law_errors c__law_errors k__law_errors,
       b__law_errors := (fun_mk (st := s_L_errors) l__law_errors c__law_errors k__law_errors).binds (ps := ["e"]) fun _ _ _ _ _ _ us hl => match us, hl with | [_], _ => rfl,
       a__law_is_letter := f__law_is_letter,
       d__law_is_letter := PySem.W.fnOf "_law_is_letter" "_law_is_letter" (defArgs s_L_is_letter) (defBody s_L_is_letter) (defScope s_L_is_letter) .none kV__law_is_letter dc__law_is_letter pm__law_is_letter an__law_is_letter cd__law_is_letter ct__law_is_letter,
       g__law_is_letter := PySem.W.mg_of X G a__law_is_letter,
       F__law_is_letter := fun_mk (st := s_L_is_letter) l__law_is_letter c__law_is_letter k__law_is_letter,
       b__law_is_letter := (fun_mk (st := s_L_is_letter) l__law_is_letter c__law_is_letter k__law_is_letter).binds (ps := ["actual", "expected"]) fun _ _ _ _ _ _ us hl => match us, hl with | [_, _], _ => rfl,
       a__law_odd_digits := f__law_odd_digits,
       d__law_odd_digits := PySem.W.fnOf "_law_odd_digits" "_law_odd_digits" (defArgs s_L_odd_digits) (defBody s_L_odd_digits) (defScope s_L_odd_digits) .none kV__law_odd_digits dc__law_odd_digits pm__law_odd_digits an__law_odd_digits cd__law_odd_digits ct__law_odd_digits,
       g__law_odd_digits := PySem.W.mg_of X G a__law_odd_digits,
       F__law_odd_digits := fun_mk (st := s_L_odd_digits) l__law_odd_digits c__law_odd_digits k__law_odd_digits,
       b__law_odd_digits := (fun_mk (st := s_L_odd_digits) l__law_odd_digits c__law_odd_digits k__law_odd_digits).binds (ps := ["source", "number"]) fun _ _ _ _ _ _ us hl => match us, hl with | [_, _], _ => rfl,
       a__law_odd_parts := f__law_odd_parts,
       d__law_odd_parts := PySem.W.fnOf "_law_odd_parts" "_law_odd_parts" (defArgs s_L_odd_parts) (defBody s_L_odd_parts) (defScope s_L_odd_parts) .none kV__law_odd_parts dc__law_odd_parts pm__law_odd_parts an__law_odd_parts cd__law_odd_parts ct__law_odd_parts,
       g__law_odd_parts := PySem.W.mg_of X G a__law_odd_parts,
       F__law_odd_parts := fun_mk (st := s_L_odd_parts) l__law_odd_parts c__law_odd_parts k__law_odd_parts,
       b__law_odd_parts := (fun_mk (st := s_L_odd_parts) l__law_odd_parts c__law_odd_parts k__law_odd_parts).binds (ps := ["source", "letter"]) fun _ _ _ _ _ _ us hl => match us, hl with | [_, _], _ => rfl,
       a__law_odd_text := f__law_odd_text,
       d__law_odd_text := PySem.W.fnOf "_law_odd_text" "_law_odd_text" (defArgs s_L_odd_text) (defBody s_L_odd_text) (defScope s_L_odd_text) .none kV__law_odd_text dc__law_odd_text pm__law_odd_text an__law_odd_text cd__law_odd_text ct__law_odd_text,
       g__law_odd_text := PySem.W.mg_of X G a__law_odd_text,
       F__law_odd_text := fun_mk (st := s_L_odd_text) l__law_odd_text c__law_odd_text k__law_odd_text,
       b__law_odd_text := (fun_mk (st := s_L_odd_text) l__law_odd_text c__law_odd_text k__law_odd_text).binds (ps := ["source", "letter"]) fun _ _ _ _ _ _ us hl => match us, hl with | [_, _], _ => rfl,
       a__law_damaged := f__law_damaged,
       d__law_damaged := PySem.W.fnOf "_law_damaged" "_law_damaged" (defArgs s_L_damaged) (defBody s_L_damaged) (defScope s_L_damaged) .none kV__law_damaged dc__law_damaged pm__law_damaged an__law_damaged cd__law_damaged ct__law_damaged,
       g__law_damaged := PySem.W.mg_of X G a__law_damaged,
       F__law_damaged := fun_mk (st := s_L_damaged) l__law_damaged c__law_damaged k__law_damaged,
       b__law_damaged := (fun_mk (st := s_L_damaged) l__law_damaged c__law_damaged k__law_damaged).binds (ps := ["text"]) fun _ _ _ _ _ _ us hl => match us, hl with | [_], _ => rfl,
       a_law := f_law,
       d_law := PySem.W.fnOf "law" "law" (defArgs s_law) (defBody s_law) (defScope s_law) .none kV_law dc_law pm_law an_law cd_law ct_law,
       g_law := PySem.W.mg_of X G a_law,
       F_law := fun_mk (st := s_law) l_law c_law k_law,
       b_law := (fun_mk (st := s_law) l_law c_law k_law).binds (ps := ["script"]) fun _ _ _ _ _ _ us hl => match us, hl with | [_], _ => rfl,
       u_LETTERS := w_LETTERS,
       g_LETTERS := PySem.W.mg_of X G v_LETTERS,
       r_LETTERS := vr_LETTERS,
       u_DIGITS := w_DIGITS,
       g_DIGITS := PySem.W.mg_of X G v_DIGITS,
       r_DIGITS := vr_DIGITS,
       u_LONGEST_NAME := w_LONGEST_NAME,
       g_LONGEST_NAME := PySem.W.mg_of X G v_LONGEST_NAME,
       r_LONGEST_NAME := vr_LONGEST_NAME,
       u_GREATEST_NUMBER := w_GREATEST_NUMBER,
       g_GREATEST_NUMBER := PySem.W.mg_of X G v_GREATEST_NUMBER,
       r_GREATEST_NUMBER := vr_GREATEST_NUMBER,
       u_LONGEST_NUMBER := w_LONGEST_NUMBER,
       g_LONGEST_NUMBER := PySem.W.mg_of X G v_LONGEST_NUMBER,
       r_LONGEST_NUMBER := vr_LONGEST_NUMBER,
       u_MOST_FIELDS := w_MOST_FIELDS,
       g_MOST_FIELDS := PySem.W.mg_of X G v_MOST_FIELDS,
       r_MOST_FIELDS := vr_MOST_FIELDS,
       u_LONGEST_FIELD := w_LONGEST_FIELD,
       g_LONGEST_FIELD := PySem.W.mg_of X G v_LONGEST_FIELD,
       r_LONGEST_FIELD := vr_LONGEST_FIELD,
       u_MODULUS := w_MODULUS,
       g_MODULUS := PySem.W.mg_of X G v_MODULUS,
       r_MODULUS := vr_MODULUS,
       u_CHECK_DIGITS := w_CHECK_DIGITS,
       g_CHECK_DIGITS := PySem.W.mg_of X G v_CHECK_DIGITS,
       r_CHECK_DIGITS := vr_CHECK_DIGITS,
       u_OTHER_PARTS := w_OTHER_PARTS,
       g_OTHER_PARTS := PySem.W.mg_of X G v_OTHER_PARTS,
       r_OTHER_PARTS := vr_OTHER_PARTS,
       n_ValueError := PySem.W.mg_none_of X G n_ValueError,
       n_all := PySem.W.mg_none_of X G n_all,
       n_bool := PySem.W.mg_none_of X G n_bool,
       n_enumerate := PySem.W.mg_none_of X G n_enumerate,
       n_int := PySem.W.mg_none_of X G n_int,
       n_isinstance := PySem.W.mg_none_of X G n_isinstance,
       n_len := PySem.W.mg_none_of X G n_len,
       n_list := PySem.W.mg_none_of X G n_list,
       n_ord := PySem.W.mg_none_of X G n_ord,
       n_range := PySem.W.mg_none_of X G n_range,
       n_str := PySem.W.mg_none_of X G n_str,
       n_sum := PySem.W.mg_none_of X G n_sum,
       n_tuple := PySem.W.mg_none_of X G n_tuple,
       kve := kve,
       xh_badValue := xh_badValue }, rfl⟩
end K26
open PySem PySem.W PyProof.Rows
set_option maxRecDepth 100000 in
set_option maxHeartbeats 0 in
theorem PySem.Challenge.cw_corebank_k26_letter_read_back_holds : PySem.Challenge.rw_corebank_k26_letter_read_back.Holds := by
  w_on; o_law; k_head; (case hw => w_witness2)
  k_fill
  refine Kv.walk (l := PySem.Challenge.rw_corebank_k26_letter_read_back) (k := 8) rfl rfl ⟨rfl, by decide, by decide⟩ (fun w h Y => PySem.W.kIn_of Y) ?F
  case F =>
    intro w mg fa h KX G hmg
    obtain ⟨T, hT⟩ : ∃ T : K26.Txt _ mg, ∃ a b c d e f, T.d_law = PySem.W.fnOf "law" "law" (L2.defArgs K26.s_law) (L2.defBody K26.s_law) (L2.defScope K26.s_law) .none a b c d e f := by
      refine' (fun z => ⟨z.choose, _, _, _, _, _, _, z.choose_spec⟩) (K26.txt_mk KX G ?e_BadValue ?e_BadDay ?e_Missing ?e_Refused ?e_Full ?e_NotAllowed ?e_Damaged ?e_BankError ?eAll ?a_is_name ?l_is_name ?c_is_name ?k_is_name ?a_check_name ?l_check_name ?c_check_name ?k_check_name ?a_check_fields ?l_check_fields ?c_check_fields ?k_check_fields ?a_check_letter ?l_check_letter ?c_check_letter ?k_check_letter ?a_check_digits_of ?l_check_digits_of ?c_check_digits_of ?k_check_digits_of ?a_write_letter ?l_write_letter ?c_write_letter ?k_write_letter ?a_is_written ?l_is_written ?c_is_written ?k_is_written ?a_read_letter ?l_read_letter ?c_read_letter ?k_read_letter ?a__law_cell ?l__law_cell ?c__law_cell ?k__law_cell ?a__law_source ?l__law_source ?c__law_source ?k__law_source ?a__law_pick ?l__law_pick ?c__law_pick ?k__law_pick ?a__law_name ?l__law_name ?c__law_name ?k__law_name ?a__law_text ?l__law_text ?c__law_text ?k__law_text ?a__law_check ?l__law_check ?c__law_check ?k__law_check ?a__law_written ?l__law_written ?c__law_written ?k__law_written ?a__law_letter ?l__law_letter ?c__law_letter ?k__law_letter ?a__law_bad_name ?l__law_bad_name ?c__law_bad_name ?k__law_bad_name ?a__law_errors ?l__law_errors ?c__law_errors ?k__law_errors ?a__law_is_letter ?l__law_is_letter ?c__law_is_letter ?k__law_is_letter ?a__law_odd_digits ?l__law_odd_digits ?c__law_odd_digits ?k__law_odd_digits ?a__law_odd_parts ?l__law_odd_parts ?c__law_odd_parts ?k__law_odd_parts ?a__law_odd_text ?l__law_odd_text ?c__law_odd_text ?k__law_odd_text ?a__law_damaged ?l__law_damaged ?c__law_damaged ?k__law_damaged ?a_law ?l_law ?c_law ?k_law ?v_LETTERS ?vr_LETTERS ?v_DIGITS ?vr_DIGITS ?v_LONGEST_NAME ?vr_LONGEST_NAME ?v_GREATEST_NUMBER ?vr_GREATEST_NUMBER ?v_LONGEST_NUMBER ?vr_LONGEST_NUMBER ?v_MOST_FIELDS ?vr_MOST_FIELDS ?v_LONGEST_FIELD ?vr_LONGEST_FIELD ?v_MODULUS ?vr_MODULUS ?v_CHECK_DIGITS ?vr_CHECK_DIGITS ?v_OTHER_PARTS ?vr_OTHER_PARTS ?n_ValueError ?n_all ?n_bool ?n_enumerate ?n_int ?n_isinstance ?n_len ?n_list ?n_ord ?n_range ?n_str ?n_sum ?n_tuple ?kve ?xh_badValue)
      (case e_BadValue => k_is)
      (case e_BadDay => k_is)
      (case e_Missing => k_is)
      (case e_Refused => k_is)
      (case e_Full => k_is)
      (case e_NotAllowed => k_is)
      (case e_Damaged => k_is)
      (case e_BankError => k_is)
      (case eAll => first | rfl | with_unfolding_all rfl | kernel_rfl)
      (case a_is_name => k_is)
      (case l_is_name => k_is)
      (case c_is_name => k_is)
      (case k_is_name => k_is)
      (case a_check_name => k_is)
      (case l_check_name => k_is)
      (case c_check_name => k_is)
      (case k_check_name => k_is)
      (case a_check_fields => k_is)
      (case l_check_fields => k_is)
      (case c_check_fields => k_is)
      (case k_check_fields => k_is)
      (case a_check_letter => k_is)
      (case l_check_letter => k_is)
      (case c_check_letter => k_is)
      (case k_check_letter => k_is)
      (case a_check_digits_of => k_is)
      (case l_check_digits_of => k_is)
      (case c_check_digits_of => k_is)
      (case k_check_digits_of => k_is)
      (case a_write_letter => k_is)
      (case l_write_letter => k_is)
      (case c_write_letter => k_is)
      (case k_write_letter => k_is)
      (case a_is_written => k_is)
      (case l_is_written => k_is)
      (case c_is_written => k_is)
      (case k_is_written => k_is)
      (case a_read_letter => k_is)
      (case l_read_letter => k_is)
      (case c_read_letter => k_is)
      (case k_read_letter => k_is)
      (case a__law_cell => k_is)
      (case l__law_cell => k_is)
      (case c__law_cell => k_is)
      (case k__law_cell => k_is)
      (case a__law_source => k_is)
      (case l__law_source => k_is)
      (case c__law_source => k_is)
      (case k__law_source => k_is)
      (case a__law_pick => k_is)
      (case l__law_pick => k_is)
      (case c__law_pick => k_is)
      (case k__law_pick => k_is)
      (case a__law_name => k_is)
      (case l__law_name => k_is)
      (case c__law_name => k_is)
      (case k__law_name => k_is)
      (case a__law_text => k_is)
      (case l__law_text => k_is)
      (case c__law_text => k_is)
      (case k__law_text => k_is)
      (case a__law_check => k_is)
      (case l__law_check => k_is)
      (case c__law_check => k_is)
      (case k__law_check => k_is)
      (case a__law_written => k_is)
      (case l__law_written => k_is)
      (case c__law_written => k_is)
      (case k__law_written => k_is)
      (case a__law_letter => k_is)
      (case l__law_letter => k_is)
      (case c__law_letter => k_is)
      (case k__law_letter => k_is)
      (case a__law_bad_name => k_is)
      (case l__law_bad_name => k_is)
      (case c__law_bad_name => k_is)
      (case k__law_bad_name => k_is)
      (case a__law_errors => k_is)
      (case l__law_errors => k_is)
      (case c__law_errors => k_is)
      (case k__law_errors => k_is)
      (case a__law_is_letter => k_is)
      (case l__law_is_letter => k_is)
      (case c__law_is_letter => k_is)
      (case k__law_is_letter => k_is)
      (case a__law_odd_digits => k_is)
      (case l__law_odd_digits => k_is)
      (case c__law_odd_digits => k_is)
      (case k__law_odd_digits => k_is)
      (case a__law_odd_parts => k_is)
      (case l__law_odd_parts => k_is)
      (case c__law_odd_parts => k_is)
      (case k__law_odd_parts => k_is)
      (case a__law_odd_text => k_is)
      (case l__law_odd_text => k_is)
      (case c__law_odd_text => k_is)
      (case k__law_odd_text => k_is)
      (case a__law_damaged => k_is)
      (case l__law_damaged => k_is)
      (case c__law_damaged => k_is)
      (case k__law_damaged => k_is)
      (case a_law => k_is)
      (case l_law => k_is)
      (case c_law => k_is)
      (case k_law => k_is)
      (case v_LETTERS => k_is)
      (case vr_LETTERS => exact ⟨_, rfl⟩)
      (case v_DIGITS => k_is)
      (case vr_DIGITS => exact ⟨_, rfl⟩)
      (case v_LONGEST_NAME => k_is)
      (case vr_LONGEST_NAME => exact ⟨_, rfl⟩)
      (case v_GREATEST_NUMBER => k_is)
      (case vr_GREATEST_NUMBER => exact ⟨_, rfl⟩)
      (case v_LONGEST_NUMBER => k_is)
      (case vr_LONGEST_NUMBER => exact ⟨_, rfl⟩)
      (case v_MOST_FIELDS => k_is)
      (case vr_MOST_FIELDS => exact ⟨_, rfl⟩)
      (case v_LONGEST_FIELD => k_is)
      (case vr_LONGEST_FIELD => exact ⟨_, rfl⟩)
      (case v_MODULUS => k_is)
      (case vr_MODULUS => exact ⟨_, rfl⟩)
      (case v_CHECK_DIGITS => k_is)
      (case vr_CHECK_DIGITS => exact ⟨_, rfl⟩)
      (case v_OTHER_PARTS => k_is)
      (case vr_OTHER_PARTS => exact ⟨_, rfl⟩)
      (case n_ValueError => k_is)
      (case n_all => k_is)
      (case n_bool => k_is)
      (case n_enumerate => k_is)
      (case n_int => k_is)
      (case n_isinstance => k_is)
      (case n_len => k_is)
      (case n_list => k_is)
      (case n_ord => k_is)
      (case n_range => k_is)
      (case n_str => k_is)
      (case n_sum => k_is)
      (case n_tuple => k_is)
      (case kve => first | rfl | with_unfolding_all rfl | kernel_rfl)
      (case xh_badValue => first | rfl | with_unfolding_all rfl | kernel_rfl)
    obtain ⟨_, _, _, _, _, _, hT⟩ := hT
    have ea : fa = T.a_law := by
      have z := hmg.symm.trans T.g_law
      cases z; rfl
    subst ea
    exact ⟨T.d_law, fun s u => by rw [hT]; exact .of_eq rfl, fun base _ _ => K26.ok_law T⟩
#print axioms PySem.Challenge.cw_corebank_k26_letter_read_back_holds
