import PyProof.Rows.All
import Wide.All
import OpenK.AllK
import Wide.FinOn
import KE.KStateDown
import HandS.ForMost
import HandS.ForExc
import HandS.ExcInit
import HandS.ExcField
import HandS.ExcIs
import HandS.IsInst
import HandS.Codes
import HandS.Star
import HandS.Steps
import HandS.Evl
import HandS.Head0
import HandS.Head1
import HandS.Head2
import HandS.HeadEnd
import HandS.HeadHook1
import HandS.HeadHook2
import HandS.HeadHook3
import HandS.HeadHook4
import KE.KExcIs
import HandS.SortKw
import HandS.OwnEq
import HandS.Zip
import HandS.Records
import HandS.Deep
import HandS.Style
import KE.GoesNew
import KE.GoesEnum
import HandS.Strs
import HandS.TupAny
import HandS.Flow
import HandS.Set
import HandS.SetBool
import HandS.TupSets
import PyProof.Rows.SortShellAny
import HandS.Defaults
import HandS.More
import PyProof.StrOps2
import PyProof.Rows.SeqMore
import HandS.FStr
import PySem.Challenge.RW_manyboard_k82_questions_as_rows
set_option Elab.async false
set_option linter.all false
set_option maxRecDepth 100000
set_option maxHeartbeats 4000000
namespace My
open PySem PySem.Spec PyProof.Rows L2
/-! what must be so of a call's text; all of it holds by evaluation -/
abbrev StarOk (X : Cx) (e : Expr) (es : List Expr) : Prop := starEach (e :: es) X.env = (false, eval e X.env) :: starEach es X.env
abbrev NoStars (X : Cx) (pos : Pos) (es : List Expr) : Prop := (backTo pos (starEach es X.env)).any (·.1) = false
abbrev NotDbg (x : Str) : Prop := (x == ("__debug__" : Str)) = false
abbrev CallsSo (X : Cx) (o : Expr) (m : Str) (args : List Expr) (apos pos : Pos) (pl : Sem Bool) : Prop :=
  eval (.Call (.Attribute o m apos) args [] pos) X.env = eval o X.env >>= fun v => standAt apos.atName >>= fun _ => holding [v] (getMethod v m pl) >>= fun r => callWith pos r.1 r.2 (backTo pos (starEach args X.env)) (backToKw pos (keywordEach [] X.env))
section calls
variable {X : Cx} {Z : CXT} {k j : Nat} {C : Addr} {x m : Str} {sp : Sp} {E : L2.St → XK} {p pos apos : Pos} {e o : Expr} {es : List Expr} {ta : TE} {t : TA}
/-- a def of the module by its name -/
structure Cal (P : Program) (w : World) (K : PySem.W.Frag) (mg : Str → Option Value) (base : Heap) (CX : CXT) (k : Nat) (x : Str) (sp : Sp) : Prop where
  ex : ∃ (f : Addr) (fd : FuncData) (ps : List Str), FnOk P w K mg base CX k f fd ps sp ∧ mg x = some (.ref f) ∧ PySem.W.keepIn K (.ref f) = true ∧ Binds K fd ps []
/-- a method -/
structure Met (P : Program) (w : World) (K : PySem.W.Frag) (mg : Str → Option Value) (base : Heap) (CX : CXT) (k : Nat) (C : Addr) (m : Str) (sp : Sp) : Prop where
  ex : ∃ (f : Addr) (fd : FuncData) (ps : List Str), L2.Cls K C ∧ Meth K C m f ∧ FnOk P w K mg base CX k f fd ps sp ∧ Binds K fd ps []
/-- an own class made by its name -/
structure Mak (P : Program) (w : World) (K : PySem.W.Frag) (mg : Str → Option Value) (base : Heap) (CX : CXT) (k : Nat) (x : Str) (C : Addr) (sp : Sp) : Prop where
  ex : ∃ (f : Addr) (fd : FuncData) (ps : List Str), Mk K C f ∧ FnOk P w K mg base CX k f fd ps sp ∧ mg x = some (.ref C) ∧ Binds K fd ps []
/-- nothing leaves -/
theorem at0 {X : Cx} : ∀ σ, PassesAt CX0 X σ ((fun _ => E0) σ) := fun _ _ _ _ _ _ _ h => h.elim
theorem atL {X : Cx} : ∀ σ, PassesAt (L2.CX X.prog X.w) X σ ((fun _ => E0) σ) := fun σ => (fun pins H s e s' I h => passL pins σ H s e s' I h)
/-- what leaves goes out at the slots -/
theorem atW {X : Cx} {W : WX} (tk : Takes X W) : ∀ σ, PassesAt (L2.CX X.prog X.w) X σ (WE W σ) := fun σ => passAt tk σ
theorem pe_c (c : Cal X.prog X.w X.K X.mg X.base Z k x sp) (hr : Room j X.A) (hk : k ≤ j) (hx : ∀ σ, PassesAt Z X σ (E σ)) (hg : Gl X x) (ha : PA X (e :: es) t)
    (hdb : NotDbg x := by decide) (he : StarOk X e es := by rfl) (hpl : NoStars X pos es := by rfl) : PE X (.Call (.Name x p) (e :: es) [] pos) (tCallS sp E t) := by
  obtain ⟨f, fd, ps, F, hm, kp, b⟩ := c.ex
  exact pe_callS F (hr.mono hk) hg hm kp b hx ha hdb he hpl
def tMethS (C : Addr) (m : Str) (sp : Sp) (E : L2.St → XK) (ta : TE) (t : TA) : TE := fun σ H Q => ta σ H fun x H1 => ∃ a dx fs, x = .ref a ∧ H1 a = some (.ins C dx fs) ∧ fs.lookup m = none ∧ t σ H1 fun vs H2 => sp (x :: vs) H2 Q (E σ)
theorem pe_m {pl : Sem Bool} (c : Met X.prog X.w X.K X.mg X.base Z k C m sp) (hr : Room j X.A) (hk : k ≤ j) (hx : ∀ σ, PassesAt Z X σ (E σ)) (he : PE X o ta) (ha : PA X (e :: es) t)
    (hst : StarOk X e es := by rfl) (hpl : NoStars X pos es := by rfl)
    (ht : CallsSo X o m (e :: es) apos pos pl := by rfl) : PE X (.Call (.Attribute o m apos) (e :: es) [] pos) (tMethS C m sp E ta t) := by
  obtain ⟨f, fd, ps, cl, hm, F, b⟩ := c.ex
  refine ⟨fun pins s σ H Q I h => PySem.W.methodCall_KW (pl := pl) (thn (he.run pins s σ H _ I h) fun u s1 hh => ?_) ht⟩
  obtain ⟨y, H1, I1, ry, a, dx, fs, ey, ea, l, q⟩ := hh
  subst ey; obtain rfl : u = Value.ref a := ry
  refine getmeth_ok I1 ea cl hm l (PySem.W.callWith_K (first := [.ref a]) (h₀ := X.base) I1.ok.mod.kin hm.kp (thn (ha.run pos pins s1 σ H1 _ I1 q) fun us s2 hh2 => ?_) hst hpl)
  obtain ⟨vs, H2, I2, r, q2⟩ := hh2
  exact ⟨I2.kIn, run_fnS (us := .ref a :: us) (vs := .ref a :: vs) F (hr.mono hk) b (hx σ) I2 (.cons rfl r) q2⟩
theorem pe_m0 {pl : Sem Bool} (c : Met X.prog X.w X.K X.mg X.base Z k C m sp) (hr : Room j X.A) (hk : k ≤ j) (hx : ∀ σ, PassesAt Z X σ (E σ)) (he : PE X o ta)
    (ht : CallsSo X o m [] apos pos pl := by rfl) : PE X (.Call (.Attribute o m apos) [] [] pos) (tMethS C m sp E ta tNil) := by
  obtain ⟨f, fd, ps, cl, hm, F, b⟩ := c.ex
  refine ⟨fun pins s σ H Q I h => PySem.W.methodCall_KW (pl := pl) (thn (he.run pins s σ H _ I h) fun u s1 hh => ?_) ht⟩
  obtain ⟨y, H1, I1, ry, a, dx, fs, ey, ea, l, q⟩ := hh
  subst ey; obtain rfl : u = Value.ref a := ry
  refine getmeth_ok I1 ea cl hm l ?_
  exact PySem.W.callWith_K0 (first := [.ref a]) I1.kIn hm.kp (run_fnS (us := [.ref a]) (vs := [.ref a]) F (hr.mono hk) b (hx σ) I1 (.cons rfl .nil) q)
def tMakeS (C : Addr) (sp : Sp) (E : L2.St → XK) (t : TA) : TE := fun σ H Q => t σ H fun vs H1 => ∀ x dx, H1 x = none → H1 dx = none → dx ≠ x → sp (.ref x :: vs) (upd (upd H1 dx (.own x)) x (.ins C dx [])) (fun v H2 => v = .non ∧ Q (.ref x) H2) (E σ)
theorem pe_mk (c : Mak X.prog X.w X.K X.mg X.base Z k x C sp) (hr : Room j X.A) (hk : k + 1 ≤ j) (hx : ∀ σ, PassesAt Z X σ (E σ)) (hg : Gl X x) (ha : PA X (e :: es) t)
    (hdb : NotDbg x := by decide) (he : StarOk X e es := by rfl) (hpl : NoStars X pos es := by rfl) :
    PE X (.Call (.Name x p) (e :: es) [] pos) (tMakeS C sp E t) := by
  obtain ⟨f, fd, ps, M, F, hm, b⟩ := c.ex
  refine ⟨fun pins s σ H Q I h => wpAny_Call_Name_kw (ld_glob I hg hm (PySem.W.callWith_K (h₀ := X.base) I.ok.mod.kin M.kp (thn (ha.run pos pins s σ H _ I h) fun us s1 hh => ?_) he hpl) hdb)⟩
  obtain ⟨vs, H1, I1, r, q⟩ := hh
  refine ⟨I1.kIn, ?_⟩
  have hq := q (s1.heap.objs.size + 1) s1.heap.objs.size (I1.hok.fresh (Nat.le_succ _)) (I1.hok.fresh (Nat.le_refl _)) (Nat.ne_of_lt (Nat.lt_succ_self _))
  have I2 := Inv.made (C := C) I1
  have r2 : Vals (V.ref (s1.heap.objs.size + 1) :: vs) (Value.ref (s1.heap.objs.size + 1) :: us) := .cons rfl r
  have hl : (Value.ref (s1.heap.objs.size + 1) :: us ++ []).length = ps.length := by
    rw [List.append_nil, ← r2.length, F.len _ _ _ _ hq]
  have b2 := b _ (Value.ref (s1.heap.objs.size + 1) :: us) I2.kIn hl
  rw [List.append_nil] at b2
  have hrk : Room (k + 1) X.A := hr.mono hk
  refine wpAny_call (make_map (f := f) I1.kIn M.makes M.init (beq_iff_eq.mp M.fn) (codeAny_mono (F.run _ X.stack _ _ ⟨Value.ref (s1.heap.objs.size + 1) :: us, []⟩ _ _ _ (E σ) (hrk.make C us []) (I2.env0.make C us []) b2 r2 hq) fun z s' hz => ?_))
  cases z with
  | error e => exact hx σ pins _ _ e s' I2 hz
  | ok fl =>
    cases fl with
    | ret u => obtain ⟨v, H', I3, rv, ev, q3⟩ := I2.after hz; subst ev; exact ⟨rv, ⟨V.ref (s1.heap.objs.size + 1), H', I3, rfl, q3⟩⟩
    | next => exact hz.elim
    | brk => exact hz.elim
    | cont => exact hz.elim
end calls

/-! ### one rule or another -/
section
variable {X : Cx} {e : Expr} {t t' : TE}
theorem pe_orr (h : PE X e t) (h' : PE X e t') : PE X e (fun σ H Q => t σ H Q ∨ t' σ H Q) := ⟨fun pins s σ H Q I hw => hw.elim (fun z => h.run pins s σ H Q I z) fun z => h'.run pins s σ H Q I z⟩
theorem pe_never : PE X e (fun _ _ _ => False) := ⟨fun _ _ _ _ _ _ z => z.elim⟩
theorem ps_neverS {st : Stmt} : PS X st (fun _ _ _ => False) := ⟨fun _ _ _ _ _ _ z => z.elim⟩
theorem pi_orr {tg it : Expr} {w w' : TI} (h : PI X tg it w) (h' : PI X tg it w') : PI X tg it (fun σ H R => w σ H R ∨ w' σ H R) := ⟨fun pins s σ H R I hw => hw.elim (fun z => h.run pins s σ H R I z) fun z => h'.run pins s σ H R I z⟩
def iA (K : PySem.W.Frag) (te : TE) : TI := fun σ H R => iList K te σ H R ∨ iTup K te σ H R ∨ iStr te σ H R
theorem pi_A {tg l : Expr} {te : TE} (h : PE X l te) : PI X tg l (iA X.K te) := pi_orr (pi_list h) (pi_orr (pi_tup h) (pi_str h))
theorem pi_never {tg it : Expr} : PI X tg it (fun _ _ _ => False) := ⟨fun _ _ _ _ _ _ z => z.elim⟩
end
section
variable {X : Cx}
/-- two lists put together, tracked, locked or written -/
def rCatR (K : PySem.W.Frag) : R2 := fun x y H Q => ∃ l b xs zs, x = .ref l ∧ y = .ref b ∧ SqL K H l xs ∧ SqL K H b zs ∧ xs.length + zs.length ≤ sizeLine ∧ ∀ p, H p = none → Q (.ref p) (upd H p (.lst (xs ++ zs)))
theorem op_catR : OpR X (binaryOp .Add) (rCatR X.K) := by
  rintro pins s σ H x y v u Q I rx ry ⟨l, b, xs, zs, rfl, rfl, hl, hb, hz, q⟩
  cases rx; cases ry
  obtain ⟨it1, r1, p1, z1⟩ := I.list hl
  obtain ⟨it2, r2, p2, z2⟩ := I.list hb
  have l1 := r1.length
  have l2 := r2.length
  obtain ⟨⟨c1, d1, t1, s1⟩, g1, rfl, n1, rfl⟩ := p1.isList
  obtain ⟨⟨c2, d2, t2, s2⟩, g2, rfl, n2, rfl⟩ := p2.isList
  refine concat_meets ⟨_, g1, rfl⟩ ⟨_, g2, rfl⟩ noFill_list_add seq_list_add PySem.F.slot_list_add PySem.F.entry_list_add (PySem.F.args_list_add_2 _ _) (list_addW l b it1.toArray it2.toArray n1 n2 d1 d2 s1 s2 (by simp only [List.size_toArray]; omega)) ⟨g1, g2, ?_⟩
  rw [show it1.toArray ++ it2.toArray = (it1 ++ it2).toArray by simp]
  exact ⟨.ref _, _, I.lnew (t' := s.toks) (r1.append r2) (by simp only [List.length_append]; omega), rfl, q _ I.fresh⟩
def rAddA (K : PySem.W.Frag) : R2 := fun x y H Q => (rI0 fun i j => V.int (i + j)) x y H Q ∨ (∃ i j, x = .str i ∧ y = .str j ∧ i.length + j.length ≤ sizeLine ∧ Q (.str (i ++ j)) H) ∨ rCatR K x y H Q ∨ rCatT K x y H Q
theorem op_addA : OpR X (binaryOp .Add) (rAddA X.K) := op_add.or (op_add_str.or (op_catR.or op_catT))
def rEqA (K : PySem.W.Frag) : R2 := fun x y H Q => rEq x y H Q ∨ rEqD K x y H Q
theorem op_eqA (hu : X.A.units + 64 < cLine) : OpR X (compareOp .Eq) (rEqA X.K) := op_eq.or (op_eqD hu)
def rNeA (K : PySem.W.Frag) : R2 := fun x y H Q => rNe x y H Q ∨ rNeD K x y H Q
theorem op_neA (hu : X.A.units + 64 < cLine) : OpR X (compareOp .NotEq) (rNeA X.K) := op_ne.or (op_neD hu)
def rInA (K : PySem.W.Frag) : R2 := fun x y H Q => rInS x y H Q ∨ rIn K false x y H Q
theorem op_inA : OpR X (compareOp .In) (rInA X.K) := op_inS.or op_in_seq
def rNotInA (K : PySem.W.Frag) : R2 := fun x y H Q => rNotInS x y H Q ∨ rIn K true x y H Q
theorem op_notInA : OpR X (compareOp .NotIn) (rNotInA X.K) := op_notInS.or op_notIn_seq
def rSlA (K : PySem.W.Frag) : V → Option Int → Option Int → Hp → VK → Prop := fun x lo hi H Q => rSlL K x lo hi H Q ∨ rSlT K x lo hi H Q ∨ C8.rSlX x lo hi H Q
theorem sl_A : SlR X (rSlA X.K) := sl_list.or (sl_tup.or C8.sl_txt)
def gTA (K : PySem.W.Frag) (n : Nat) (t : TGs) : TG := fun v σ H Q => gTup K n t v σ H Q ∨ gLst K n t v σ H Q
theorem pg_tupA {pos : Pos} {es : List Expr} {k : Nat} {t : TGs} {n : Nat} (hc : X.calm = true) (h : PGs X es t) (hn : (assignEach es X.env).length = n := by rfl) (hst : (assignEach es X.env).findIdx? (·.1) = none := by rfl) : PG X (.Tuple es k pos) (gTA X.K n t) :=
  ⟨fun pins s σ H v u Q I r hw => hw.elim (fun z => (pg_tup hc h hn hst).run pins s σ H v u Q I r z) fun z => (pg_lst hc h hn hst).run pins s σ H v u Q I r z⟩
end

/-! ### own exceptions: the class by one Bool, made, read, asked of -/
def eqB {α : Type} [DecidableEq α] (a b : α) : Bool := decide (a = b)
def shapeX (K : PySem.W.Frag) (C : Addr) : Bool :=
  match K.lookup C with
  | some ⟨.type "type", _, .cls cd, sl⟩ =>
    match cd.mro, sl.toList with
    | .ref D :: rest, [_, _, _, _, some (.builtin b), _] => eqB D C && eqB b "ValueError.__new__" && eqB cd.hasDel false && cd.hasDict && PySem.HandSPX.refsVE rest
    | _, _ => false
  | _ => false
theorem shapeX_ok {K : PySem.W.Frag} {C : Addr} (h : shapeX K C = true) : ∃ nm q N bs bm sn sub ab col dd k0 k1 k2 k3 k5,
    K.lookup C = some (excClassObj nm q C N bs bm true sn sub ab col dd k0 k1 k2 k3 k5 "ValueError.__new__") ∧ PySem.HandSPX.refsVE bm = true := by
  unfold shapeX at h
  split at h
  · rename_i dd cd sl ho
    split at h
    · rename_i D bm k0 k1 k2 k3 b k5 hm hs
      simp only [Bool.and_eq_true, eqB, decide_eq_true_eq] at h
      obtain ⟨⟨⟨⟨rfl, rfl⟩, hdel⟩, hd⟩, hr⟩ := h
      obtain ⟨nm, bs, mro, ns, qn, hdct, sn, sub, ab, col, del⟩ := cd
      dsimp only at hm hdel hd
      subst hm hdel hd
      obtain ⟨l⟩ := sl
      dsimp only at hs
      subst hs
      exact ⟨nm, qn, ns, bs, bm, sn, sub, ab, col, dd, k0, k1, k2, k3, k5, ho, hr⟩
    · cases h
  · cases h
/-- all that is asked of an own exception's class -/
def excB (K : PySem.W.Frag) (C : Addr) : Bool := shapeX K C && (eqB (PySem.W.findIn K (.ref C) "__setattr__") (some (some (.builtin "object.__setattr__"))) && (eqB (PySem.W.subIn K (.ref C) (.type "BaseException")) (some true) && (eqB (PySem.W.typeIn K (.ref C)) (some (.type "type")) &&
  (PySem.W.keepIn K (.ref C) && (xfB K C && (eqB (PySem.W.findIn K (.ref C) "__class__") (some (some (.builtin "object.__class__"))) && (eqB (PySem.W.specialIn K (.builtin "object.__class__") "__get__") (some (some (.builtin "getset_descriptor.__get__"))) &&
  (eqB (PySem.W.takesIn K (.builtin "object.__class__")) (some true) && eqB (PySem.W.mroIn K C (.type "object")) (some true)))))))))
structure ExC (K : PySem.W.Frag) (C : Addr) : Prop where
  o : OexC K C
  x : XfC K C
  c : ExcC K C
theorem bA {a b : Bool} (h : (a && b) = true) : a = true ∧ b = true := Bool.and_eq_true_iff.mp h
theorem eqB_ok {α : Type} [DecidableEq α] {a b : α} (h : eqB a b = true) : a = b := of_decide_eq_true h
theorem excB_ok {K : PySem.W.Frag} {C : Addr} (h : excB K C = true) : ExC K C := by
  obtain ⟨a1, h⟩ := bA h
  obtain ⟨a2, h⟩ := bA h
  obtain ⟨a3, h⟩ := bA h
  obtain ⟨a4, h⟩ := bA h
  obtain ⟨a5, h⟩ := bA h
  obtain ⟨a6, h⟩ := bA h
  obtain ⟨a7, h⟩ := bA h
  obtain ⟨a8, h⟩ := bA h
  obtain ⟨a9, a10⟩ := bA h
  have x := xfB_ok a6
  exact ⟨⟨shapeX_ok a1, eqB_ok a2, eqB_ok a3, eqB_ok a4, a5⟩, x, ⟨x.ga, x.gg, eqB_ok a3, x.hdC, eqB_ok a7, eqB_ok a8, eqB_ok a9, eqB_ok a10⟩⟩
/-- isinstance of a caught exception that has its own dict -/
def rIsX (K : PySem.W.Frag) (a : Addr) (cls : Value) (d : Option Addr) : List V → Hp → VK → Prop := fun xs H Q => ∃ (D dd : Addr) (fs : List (Str × V)) (c : V) (cv : Value) (b : Bool), cls = .ref D ∧ d = some dd ∧ H dd = some (.xd fs) ∧ ExC K D ∧
  xs = [.ref a, c] ∧ (∀ u, RelV c u → u = cv) ∧ PySem.W.kitOne K (.ref D) cv = some b ∧ Q (.bl b) H
theorem call_isX {X : Cx} {a : Addr} {cls : Value} {d : Option Addr} {oe : Obj} {pn : List (Addr × Obj)} (hz : Zc cls d oe) (hf : ∃ vs, oe.data = .fields vs) : CallR (X.suite a ((a, oe) :: pn)) (.builtin "isinstance") (rIsX X.K a cls d) := by
  rintro pins s σ H xs us Q I r ⟨D, dd, fs, c, cv, b, rfl, rfl, hd, T, rfl, hcv, e, q⟩
  obtain ⟨u, v, rfl, ru, rv⟩ := vals2 r
  cases ru
  obtain rfl := hcv _ rv
  obtain ⟨hat, _⟩ := I.pin (a, oe) (List.mem_append.mpr (.inl List.mem_cons_self))
  obtain ⟨vs, hvs⟩ := hf
  have hx : ObjOk X.prog X.w H s.heap dd (.xd fs) := I.hok dd _ hd
  obtain ⟨mA, hns, _⟩ := hx
  obtain ⟨od, ho, _⟩ := lookIn_ns hns
  have J : PySem.W.InstAt s.heap a oe D (some od) := ⟨hat, hz.1, by unfold PySem.W.notCls; rw [hvs], by rw [hz.2]; exact ho⟩
  have hcl : (PySem.W.clsIn X.K D).isSome = true := by
    obtain ⟨cd, hc, _⟩ := PySem.W.any_some T.c.hd
    rw [hc]; rfl
  exact PySem.W.kia_one (PySem.W.kitx_exc hcl T.c.hg T.c.hk T.c.hs T.c.ha T.c.hn T.c.ht T.c.hm) I.kIn J e (fun z => nomatch z) fun tk => ⟨.bl b, H, I.kept (t' := tk) fun _ _ z => z, rfl, q⟩
/-- a field of a caught exception -/
def tXA (K : PySem.W.Frag) (a : Addr) (cls : Value) (d : Option Addr) (f : Str) (te : TE) : TE := fun σ H Q => ∃ C, ExC K C ∧ PySem.W.findIn K (.ref C) f = some none ∧ tXf a cls d C f te σ H Q
theorem pe_xA {X : Cx} {a : Addr} {oe : Obj} {cls : Value} {d : Option Addr} {pn : List (Addr × Obj)} {e : Expr} {te : TE} {pos : Pos} {n : Str} (hz : Zc cls d oe) (hf : ∃ vs, oe.data = .fields vs) (he : PE (X.suite a ((a, oe) :: pn)) e te)
    (hb : attributeBase e n X.env (eval e X.env) = eval e X.env := by rfl) : PE (X.suite a ((a, oe) :: pn)) (.Attribute e n pos) (tXA X.K a cls d n te) :=
  ⟨fun pins s σ H Q I ⟨_, T, hn, h⟩ => (pe_xf T.x hn hz hf he hb).run pins s σ H Q I h⟩
/-! ### made: the fields that the class's own __init__ gives -/
def spX (C : Addr) (flds : List V → Option (List (Str × V))) : Sp := fun vs H Q _ => ∃ (a : Addr) (ws : List V) (fs : List (Str × V)), vs = .ref a :: ws ∧ flds ws = some fs ∧ H a = some (exo a C none) ∧
  ∀ (d : Addr) (H' : Hp), H d = none → d ≠ a → H' d = some (exd d fs) → H' a = some (exo a C (some d)) → (∀ b, b ≠ a → b ≠ d → H' b = H b) → Q .non H'
structure Exk (P : Program) (w : World) (K : PySem.W.Frag) (mg : Str → Option Value) (base : Heap) (k : Nat) (x : Str) (C : Addr) (flds : List V → Option (List (Str × V))) : Prop where
  ex : ∃ (fI : Addr) (fd : FuncData) (ps : List Str), ExC K C ∧ PySem.W.findIn K (.ref C) "__init__" = some (some (.ref fI)) ∧ PySem.W.typeIn K (.ref fI) = some (.type "function") ∧
    FnOk P w K mg base CX0 k fI fd ps (spX C flds) ∧ mg x = some (.ref C) ∧ Binds K fd ps []
/-- behind the arguments: the fields, and what is wished of any heap with the new error's dict -/
theorem mkA_in {C : Addr} {flds : List V → Option (List (Str × V))} {vs : List V} {H1 : Hp} {Q : XK} {fs : List (Str × V)} (hf : flds vs = some fs) (hl : vs.length ≤ 1000)
    (k : ∀ (d : Addr) (H2 : Hp), H1 d = none → Same H1 H2 → H2 d = some (.xd fs) → Q (.ref C) (some d) H2) :
    vs.length ≤ 1000 ∧ ∀ a, H1 a = none → spX C flds (.ref a :: (vs ++ [])) (upd H1 a (exo a C none)) (fun v H2 => v = .non ∧ ∃ (d : Addr) (fs : List (Str × V)), H2 a = some (exo a C (some d)) ∧ H2 d = some (exd d fs) ∧ H1 d = none ∧ Q (.ref C) (some d) (upd (del H2 a) d (.xd fs))) (fun _ _ _ => False) := by
  refine ⟨hl, fun a ha => ⟨a, vs, fs, by rw [List.append_nil], hf, upd_same, fun d H' hd hne e1 e2 kp => ?_⟩⟩
  rw [upd_ne hne] at hd
  refine ⟨rfl, d, fs, e2, e1, hd, k d _ hd (fun b o hb => ?_) upd_same⟩
  have b1 : b ≠ d := ne_of_none hb hd
  have b2 : b ≠ a := ne_of_none hb ha
  rw [upd_ne b1, del_ne b2, kp b b2 b1, upd_ne b2]
  exact hb
theorem pass0F {X : Cx} : Passes CX0 X (fun _ _ _ => False) := fun _ _ _ _ _ _ _ h => h.elim
theorem pmk_A {X : Cx} {k j : Nat} {x : Str} {C : Addr} {flds : List V → Option (List (Str × V))} {e : Expr} {es : List Expr} {ta : TA} {p pos : Pos} (c : Exk X.prog X.w X.K X.mg X.base k x C flds) (hr : Room j X.A) (hk : k + 1 ≤ j) (hg : Gl X x) (ha : PA X (e :: es) ta)
    (hdb : NotDbg x := by decide) (he : StarOk X e es := by rfl) (hpl : NoStars X pos es := by rfl) :
    PMk X (.Call (.Name x p) (e :: es) [] pos) (tMkO C (spX C flds) [] ta) := by
  obtain ⟨fI, fd, ps, T, i, ti, F, hm, b⟩ := c.ex
  exact pmk_oex T.o i ti F (hr.mono hk) b .nil pass0F hg hm ha hdb he hpl

/-! ### max(ints, default = an int) -/
section
variable {w : World} {prog : Program} {A : Around} {I : Addr} {fp wr : List Addr} {R : Result → Shared → Prop} {n : Nat} {P : Nat → Value → Prop} {St : Nat → Heap → Prop}
theorem loopN : (toString "max" ++ toString ".loop" : String) = "max.loop" := by decide
/-- the loop of max, whatever keywords it carries: an item is held -/
theorem max_on (kw : List (Str × Value)) (Wk : Walks prog w A.in1 I fp wr n P St) (bb : Nat → Nat → Bool) (cm : CmpOf prog w A.in1 .Gt P bb) (L : Addr) (nf : L ∉ fp) :
    ∀ (m j : Nat) (s : Shared) (u : Value) (c : Nat), m + (j + 1) = n → St (j + 1) s.heap → P (argBest bb j) u → s.heap.get? L = some ⟨.type "list", none, .seq #[u, u] c, #[]⟩ →
    (∀ v g tk, P (argBest bb (n - 1)) v → (∀ b o, b ∉ wr → b ≠ L → s.heap.get? b = some o → g.get? b = some o) → R (.ok (.ret v)) { s with heap := g, toks := tk }) →
    codeAny (model prog w) A (.builtin "max.loop" ⟨[.ref I, .none, .ref L], kw⟩) R s := by
  have nw : L ∉ wr := fun z => nf (Wk.sub _ z)
  intro m
  induction m with
  | zero =>
    intro j s u c e st pu hL k
    have e' : j + 1 = n := by omega
    refine codeAny_builtin F.entry_max_loop (by
      rw [Around.under_plainId F.plain_max_loop _]
      show wpAny _ A.in1 (seqItems? (.ref L) >>= _) _ _ s
      refine wpAny_bind (wpAny_seqItems hL rfl ?_); show wpAny _ A.in1 (tryCatch (pyNext (.ref I)) _ >>= _) _ _ s
      refine wpAny_bind (wpAny_tryCatch (Wk.done s _ _ (e' ▸ st) fun g tk kp => ?_))
      have hL' := kp L _ nw hL
      show wpAny _ A.in1 (updateSeq L (fun _ => #[]) >>= _) _ _ _
      exact wpAny_bind (wpAny_updateSeq hL' rfl (wpAny_bind (wpAny_letGo (wpAny_pure (k u _ tk (by rw [← e']; exact pu) fun b o h1 h2 z => (Heap.get?_update_other _ _ (Ne.symm h2)).trans (kp b o h1 z)))))))
  | succ m ih =>
    intro j s u c e st pu hL k
    have lt : j + 1 < n := by omega
    refine codeAny_builtin F.entry_max_loop (by
      rw [Around.under_plainId F.plain_max_loop _]
      show wpAny _ A.in1 (seqItems? (.ref L) >>= _) _ _ s
      refine wpAny_bind (wpAny_seqItems hL rfl ?_); show wpAny _ A.in1 (tryCatch (pyNext (.ref I)) _ >>= _) _ _ s
      refine wpAny_bind (wpAny_tryCatch (Wk.item (j + 1) s _ _ lt st fun v g tk pv st' kp => ?_))
      have hL' := kp L _ nw hL
      show wpAny _ A.in1 (tryCatch (holding [v, v] (richCompare .Gt v u >>= _)) _ >>= _) _ _ _
      refine wpAny_bind (wpAny_tryCatch (wpAny_holding (wpAny_bind (cm (j + 1) (argBest bb j) v u _ _ _ pv pu (wpAny_bind (wpAny_holding (wpAny_truthy_bool (wpAny_bind (wpAny_letGo (wpAny_pure ?_))))))))))
      cases hb : bb (j + 1) (argBest bb j) with
      | true =>
        simp only [if_true]
        refine wpAny_bind (wpAny_updateSeq hL' rfl (wpAny_bind (wpAny_letGo ?_)))
        rw [loopN]
        refine wpAny_pure ⟨plainId_quiet F.plain_max_loop _, ih (j + 1) _ v _ (by omega) (Wk.frame _ _ _ st' fun b hbf o z => ?_) (by simp only [argBest, hb, if_true]; exact pv) (Heap.get?_update_self _ hL' rfl) fun v' g' tk' p' kp' => ?_⟩
        · exact (Heap.get?_update_other _ _ (fun y : L = b => nf (y ▸ hbf))).trans z
        · exact k v' g' tk' p' fun b o h1 h2 z => kp' b o h1 h2 ((Heap.get?_update_other _ _ (Ne.symm h2)).trans (kp b o h1 z))
      | false =>
        simp only [Bool.false_eq_true, if_false]
        refine wpAny_bind (wpAny_letGo ?_)
        rw [loopN]
        exact wpAny_pure ⟨plainId_quiet F.plain_max_loop _, ih (j + 1) _ u c (by omega) st' (by simp only [argBest, hb, Bool.false_eq_true, if_false]; exact pu) hL' fun v' g' tk' p' kp' => k v' g' tk' p' fun b o h1 h2 z => kp' b o h1 h2 (kp b o h1 z)⟩)
/-- .. from its first turn, with a default -/
theorem max_at (d : Value) (Wk : Walks prog w A.in1 I fp wr n P St) (bb : Nat → Nat → Bool) (cm : CmpOf prog w A.in1 .Gt P bb) (L : Addr) (nf : L ∉ fp) {s : Shared} {c : Nat} (st : St 0 s.heap) (hL : s.heap.get? L = some ⟨.type "list", none, .seq #[] c, #[]⟩)
    (k0 : n = 0 → ∀ g tk, (∀ b o, b ∉ wr → b ≠ L → s.heap.get? b = some o → g.get? b = some o) → R (.ok (.ret d)) { s with heap := g, toks := tk })
    (k : 0 < n → ∀ v g tk, P (argBest bb (n - 1)) v → (∀ b o, b ∉ wr → b ≠ L → s.heap.get? b = some o → g.get? b = some o) → R (.ok (.ret v)) { s with heap := g, toks := tk }) :
    codeAny (model prog w) A (.builtin "max.loop" ⟨[.ref I, .none, .ref L], [("default", d)]⟩) R s := by
  have nw : L ∉ wr := fun z => nf (Wk.sub _ z)
  refine codeAny_builtin F.entry_max_loop (by
    rw [Around.under_plainId F.plain_max_loop _]
    show wpAny _ A.in1 (seqItems? (.ref L) >>= _) _ _ s
    refine wpAny_bind (wpAny_seqItems hL rfl ?_); show wpAny _ A.in1 (tryCatch (pyNext (.ref I)) _ >>= _) _ _ s
    by_cases h0 : n = 0
    · subst h0
      refine wpAny_bind (wpAny_tryCatch (Wk.done s _ _ st fun g tk kp => ?_))
      exact wpAny_bind (wpAny_rule (wpAny_pure (k0 rfl g tk fun b o h1 _ z => kp b o h1 z)))
    · have hn : 0 < n := Nat.pos_of_ne_zero h0
      refine wpAny_bind (wpAny_tryCatch (Wk.item 0 s _ _ hn st fun v g tk pv st' kp => ?_))
      have hL' := kp L _ nw hL
      show wpAny _ A.in1 (updateSeq L (fun _ => #[v, v]) >>= _) _ _ _
      refine wpAny_bind (wpAny_updateSeq hL' rfl ?_)
      rw [loopN]
      refine wpAny_pure ⟨plainId_quiet F.plain_max_loop _, max_on _ Wk bb cm L nf (n - 1) 0 _ v _ (by omega) (Wk.frame _ _ _ st' fun b hbf o z => ?_) pv (Heap.get?_update_self _ hL' rfl) fun v' g' tk' p' kp' => ?_⟩
      · exact (Heap.get?_update_other _ _ (fun y : L = b => nf (y ▸ hbf))).trans z
      · exact k hn v' g' tk' p' fun b o h1 h2 z => kp' b o h1 h2 ((Heap.get?_update_other _ _ (Ne.symm h2)).trans (kp b o h1 z)))
end
section
variable {w : World} {prog : Program} {s : Shared} {A : Around} {E : Value → Shared → Prop} {l : Addr} {its : List Value} {ns : List Int} {Q : Value → Shared → Prop}
theorem argsD (a d : Value) : argsOk "max" ⟨[a], [("default", d)]⟩ := by unfold argsOk; kernel_rfl
theorem max_def (hh : A.handled = none) (hl : s.heap.IsList l its.toArray) (hi : IntsAre its ns) (d : Value)
    (k0 : ns = [] → ∀ g tk, (∀ b o, s.heap.get? b = some o → g.get? b = some o) → Q d { s with heap := g, toks := tk })
    (k : ns ≠ [] → ∀ g tk M t', (∀ b o, s.heap.get? b = some o → g.get? b = some o) → M ∈ ns → (∀ a, a ∈ ns → a ≤ M) → Q (.int M t') { s with heap := g, toks := tk }) :
    wpAny (model prog w) A (call (.builtin "max") [.ref l] [("default", d)]) Q E s := by
  obtain ⟨xs, e⟩ := hi.allInts.items
  have hn : numsOf (intItems xs).toList = ns := (congrArg (fun a : Array Value => numsOf a.toList) e).symm.trans hi.numsOf
  rw [nums_intItems] at hn
  subst hn
  rw [e] at hl
  refine wpAny_call (codeAny_call_builtin F.plain_max F.entry_max ?_)
  have chk : checkBuiltinCall "max" ⟨[.ref l], [("default", d)]⟩ = pure () := by
    have ha := argsD (.ref l) d
    simp only [checkBuiltinCall, F.kind_max]
    cases hs : Manifest.signature? "max" with
    | none => rfl
    | some sg => simp only [argsOk, hs] at ha; exact ha
  rw [chk]
  refine wpAny_pure ?_
  show wpAny _ A.in1 (Builtin.Builtins.bindParams "max" ["key", "default"] 0 ⟨[], [("default", d)]⟩ >>= _) _ _ s
  refine wpAny_bind (wpAny_of_eq (show Builtin.Builtins.bindParams "max" ["key", "default"] 0 ⟨[], [("default", d)]⟩ = pure [none, some d] from rfl) ?_)
  refine wpAny_bind (wpAny_pure (wpAny_bind ?_))
  refine iter_intList (prog := prog) (w := w) (A := A.in1) hl fun s₂ e2 st hfp hlI => wpAny_bind (wpAny_newObj_type ?_)
  subst e2
  rw [loopN]
  have nf : (s.heap.push { cls := .type "list_iterator", data := .fields #[.ref l, .int 0 0] }).objs.size ∉ [s.heap.objs.size, l] := fun z => Nat.lt_irrefl _ (hfp _ z)
  have Wk := Walks.list (prog := prog) (w := w) (A := A.in1) hh s.heap.objs.size l hlI (intItems xs)
  refine wpAny_pure ⟨plainId_quiet F.plain_max_loop _, max_at d Wk _ (CmpOf.ints_gt (numAt xs) (fun _ _ => intItems_at)) _ nf (Wk.frame 0 _ _ st fun b _ o z => Heap.get?_push_of_some _ z) (Heap.get?_push_size _ rfl) (fun h0 g tk kp => ?_) (fun h0 v g tk hv kp => ?_)⟩
  · have hx : xs.toList.map (·.1) = [] := by
      have : xs.size = 0 := by simpa [intItems] using h0
      rw [Array.size_eq_zero_iff.mp this]; rfl
    exact k0 hx g tk fun b o z => kp b o (fun y => by
      have : b = s.heap.objs.size := by simpa using y
      exact absurd (Heap.lt_size z) (by rw [this]; exact Nat.lt_irrefl _)) (fun y => absurd (Heap.lt_size z) (by rw [y]; exact Nat.not_lt.mpr (by rw [Heap.size_push]; exact Nat.le_succ _))) (Heap.get?_push_of_some _ (Heap.get?_push_of_some _ z))
  · have hsz : 0 < xs.size := by simpa [intItems] using h0
    have hv' : (intItems xs)[argBest (fun i j => decide (numAt xs i > numAt xs j)) (xs.size - 1)]? = some v := by simpa [intItems] using hv
    obtain ⟨t, rfl⟩ := intItems_at hv'
    obtain ⟨g1, g2⟩ := argBest_gt (numAt xs) (xs.size - 1)
    refine k (fun z => ?_) g tk _ t (fun b o z => kp b o (fun y => ?_) (fun y => absurd (Heap.lt_size z) (by rw [y]; exact Nat.not_lt.mpr (by rw [Heap.size_push]; exact Nat.le_succ _))) (Heap.get?_push_of_some _ (Heap.get?_push_of_some _ z))) ?_ fun a ha => ?_
    · have := congrArg List.length z
      simp at this
      rw [this] at hsz; exact absurd hsz (by decide)
    · have : b = s.heap.objs.size := by simpa using y
      exact absurd (Heap.lt_size z) (by rw [this]; exact Nat.lt_irrefl _)
    · rw [numAt_eq]; exact PySem.getD_mem (by simp only [List.length_map, Array.length_toList]; omega)
    · obtain ⟨j, hj, rfl⟩ := mem_getD ha
      simp only [List.length_map, Array.length_toList] at hj
      rw [← numAt_eq]; exact g2 j (by omega)
end
section
variable {X : Cx}
def rMaxD (K : PySem.W.Frag) : List V → List V → Hp → VK → Prop := fun vs zs H Q => ∃ (a : Addr) (ns : List Int) (d : Int), vs = [.ref a] ∧ zs = [.int d] ∧ SqL K H a (ns.map V.int) ∧ (ns = [] → Q (.int d) H) ∧ (∀ m, ns ≠ [] → m ∈ ns → (∀ y, y ∈ ns → y ≤ m) → Q (.int m) H)
theorem cr_maxD (hc : X.calm = true) : CallRK X (.builtin "max") ["default"] (rMaxD X.K) := by
  rintro pins s σ H vs zs us ws Q I r rz ⟨a, ns, d, rfl, rfl, hS, k0, k⟩
  obtain ⟨u, rfl, ru⟩ := vals1 r
  cases ru
  obtain ⟨z, rfl, rz'⟩ := vals1 rz
  obtain ⟨td, rfl⟩ := rz'
  obtain ⟨its, r', pl, hz⟩ := I.list hS
  refine max_def (I.ok.hd hc) pl.isList (Vals.ints r') _ (fun e g tk kp => ⟨.int d, H, I.kept (t' := tk) kp, ⟨_, rfl⟩, k0 e⟩) (fun e g tk m t' kp h1 h2 => ⟨.int m, H, I.kept (t' := tk) kp, ⟨_, rfl⟩, k m e h1 h2⟩)
end

/-! ### readings, one step at a time -/
section
variable {σ : L2.St} {H : Hp} {Q : VK} {R : Bool → Hp → Prop} {D : Ends} {K : PySem.W.Frag} {x y v : V}
theorem s_var {i : Nat} (h : σ[i]? = some (some v)) (k : Q v H) : tVar i σ H Q := ⟨v, h, k⟩
theorem s_c (k : Q v H) : tC v σ H Q := k
theorem s_op {r : R2} {ta tb : TE} (k : ta σ H fun x H1 => tb σ H1 fun y H2 => r x y H2 Q) : tOp r ta tb σ H Q := k
theorem s_un {r : V → Hp → VK → Prop} {ta : TE} (k : ta σ H fun x H1 => r x H1 Q) : tUn r ta σ H Q := k
theorem s_test {t : TE} (k : t σ H fun x H' => ∃ b, x = .bl b ∧ R b H') : tTest t σ H R := k
theorem s_B {t : TE} (k : t σ H fun x H' => ∃ b, x = .bl b ∧ R b H') : tB t σ H R := k
theorem s_bl {b : Bool} {P : Bool → Prop} (k : P b) : ∃ c, V.bl b = .bl c ∧ P c := ⟨b, rfl, k⟩
theorem s_not {t : TT} (k : t σ H fun c H1 => R (!c) H1) : tNot t σ H R := k
theorem s_and {t u : TT} (k : t σ H fun c H1 => if c = true then u σ H1 R else R false H1) : tAnd t u σ H R := k
theorem s_or {t u : TT} (k : t σ H fun c H1 => if c = true then R true H1 else u σ H1 R) : tOr t u σ H R := k
theorem s_andV {ta tb : TE} (k : ta σ H fun x H1 => ∃ c, x = .bl c ∧ if c = true then tb σ H1 Q else Q (.bl false) H1) : tAndV ta tb σ H Q := k
theorem s_orV {ta tb : TE} (k : ta σ H fun x H1 => ∃ c, x = .bl c ∧ if c = true then Q (.bl true) H1 else tb σ H1 Q) : tOrV ta tb σ H Q := k
theorem s_notV {ta : TE} (k : ta σ H fun x H1 => ∃ c, x = .bl c ∧ Q (.bl (!c)) H1) : tNotV ta σ H Q := k
theorem s_ifE {t : TT} {ta tb : TE} (k : t σ H fun c H1 => if c = true then ta σ H1 Q else tb σ H1 Q) : tIf t ta tb σ H Q := k
theorem s_cons {ta : TE} {tr : TA} {P : List V → Hp → Prop} (k : ta σ H fun x H1 => tr σ H1 fun xs H2 => P (x :: xs) H2) : tCons ta tr σ H P := k
theorem s_nil {P : List V → Hp → Prop} (k : P [] H) : tNil σ H P := k
theorem s_cb {r : List V → Hp → VK → Prop} {t : TA} (k : t σ H fun vs H1 => r vs H1 Q) : tCB r t σ H Q := k
theorem s_call {sp : Sp} {E : L2.St → XK} {t : TA} (k : t σ H fun vs H1 => sp vs H1 Q (E σ)) : tCallS sp E t σ H Q := k
theorem s_seq {t u : TS} (k : t { D with nx := u D } σ H) : tSeq t u D σ H := k
theorem s_asg {te : TE} {g : TG} (k : te σ H fun x H1 => g x σ H1 D.nx) : tAsg te g D σ H := k
theorem s_gn {i : Nat} {P : L2.St → Hp → Prop} (k : P (σ.set i (some v)) H) : gName i v σ H P := k
theorem s_ifS {c : TT} {t u : TS} (k : c σ H fun b H1 => if b = true then t D σ H1 else u D σ H1) : tIfS c t u D σ H := k
theorem s_ret {te : TE} (k : te σ H D.rt) : tRet te D σ H := k
theorem s_retN (k : D.rt .non H) : tRetN D σ H := k
theorem s_drop {te : TE} (k : te σ H fun _ H1 => D.nx σ H1) : tDrop te D σ H := k
theorem s_next (k : D.nx σ H) : tNext D σ H := k
theorem s_tup {t : TA} (k : t σ H fun xs H1 => xs.length ≤ sizeLine ∧ ∀ p, H1 p = none → Q (.ref p) (upd H1 p (.tup xs))) : tTup t σ H Q := k
theorem s_lst {t : TA} (k : t σ H fun xs H1 => xs.length ≤ sizeLine ∧ ∀ p, H1 p = none → Q (.ref p) (upd H1 p (.lst xs))) : tLst t σ H Q := k
theorem s_chain {r r' : R2} {ta tb tc : TE} (k : ta σ H fun x H1 => tb σ H1 fun y H2 => r x y H2 fun z H3 => ∃ b, z = .bl b ∧ (if b = true then tc σ H3 fun u H4 => r' y u H4 Q else Q (.bl false) H3)) : tChain r r' ta tb tc σ H Q := k
theorem s_sl {r : V → Option Int → Option Int → Hp → VK → Prop} {te : TE} {tl th : TO} (k : te σ H fun x H1 => tl σ H1 fun l H2 => th σ H2 fun u H3 => r x l u H3 Q) : tSl r te tl th σ H Q := k
theorem s_no {P : Option Int → Hp → Prop} (k : P none H) : tNoPart σ H P := k
theorem s_part {t : TE} {P : Option Int → Hp → Prop} (k : t σ H fun x H1 => ∃ i, x = .int i ∧ P (some i) H1) : tPart t σ H P := k
theorem s_ib {i : Int} {P : Int → Prop} (k : P i) : ∃ c, V.int i = .int c ∧ P c := ⟨i, rfl, k⟩
theorem s_fld {ta : TE} {f : Str} (k : ta σ H fun x H1 => ∃ a C dx fs v, x = .ref a ∧ H1 a = some (.ins C dx fs) ∧ Cls K C ∧ NoAttr K C f ∧ fs.lookup f = some v ∧ Q v H1) : tFld K ta f σ H Q := k
theorem s_bm {T : String} {r : V → List V → Hp → VK → Prop} {to : TE} {t : TA} (k : to σ H fun x H1 => tyV K T x H1 ∧ t σ H1 fun xs H2 => r x xs H2 Q) : tBM K T r to t σ H Q := k
/-! by values -/
theorem s_I0 {g : Int → Int → V} {i j : Int} (k : Q (g i j) H) : rI0 g (.int i) (.int j) H Q := ⟨i, j, rfl, rfl, k⟩
theorem s_I {C : Int → Int → Prop} {g : Int → Int → V} {i j : Int} (c : C i j) (k : Q (g i j) H) : rI C g (.int i) (.int j) H Q := ⟨i, j, rfl, rfl, c, k⟩
theorem s_addI {i j : Int} (k : Q (.int (i + j)) H) : rAddA K (.int i) (.int j) H Q := .inl ⟨i, j, rfl, rfl, k⟩
theorem s_addS {i j : Str} (c : i.length + j.length ≤ sizeLine) (k : Q (.str (i ++ j)) H) : rAddA K (.str i) (.str j) H Q := .inr (.inl ⟨i, j, rfl, rfl, c, k⟩)
theorem s_addL {a b : Addr} {xs ys : List V} (ha : SqL K H a xs) (hb : SqL K H b ys) (c : xs.length + ys.length ≤ sizeLine) (k : ∀ p, H p = none → Q (.ref p) (upd H p (.lst (xs ++ ys)))) : rAddA K (.ref a) (.ref b) H Q := .inr (.inr (.inl ⟨a, b, xs, ys, rfl, rfl, ha, hb, c, k⟩))
theorem s_eq (h : scal x y = true) (k : Q (.bl (decide (x = y))) H) : rEqA K x y H Q := .inl ⟨h, k⟩
theorem s_ne (h : scal x y = true) (k : Q (.bl (!decide (x = y))) H) : rNeA K x y H Q := .inl ⟨h, k⟩
theorem s_eqD {d e : PyData} (hd : Dp K H x d) (he : Dp K H y e) (sd : SeqAt.shaped d = true) (se : SeqAt.shaped e = true) (k : Q (.bl (PyData.eqv d e)) H) : rEqA K x y H Q := .inr ⟨d, e, hd, he, sd, se, k⟩
theorem s_neD {d e : PyData} (hd : Dp K H x d) (he : Dp K H y e) (sd : SeqAt.shaped d = true) (se : SeqAt.shaped e = true) (k : Q (.bl (!PyData.eqv d e)) H) : rNeA K x y H Q := .inr ⟨d, e, hd, he, sd, se, k⟩
theorem s_in1 {c : Nat} {z : Str} (k : Q (.bl (decide (c ∈ z.cps.toList))) H) : rInA K (.str ⟨#[c]⟩) (.str z) H Q := .inl ⟨c, z, rfl, rfl, k⟩
theorem s_notin1 {c : Nat} {z : Str} (k : Q (.bl (!decide (c ∈ z.cps.toList))) H) : rNotInA K (.str ⟨#[c]⟩) (.str z) H Q := .inl ⟨c, z, rfl, rfl, k⟩
theorem s_ixS {z : Str} {i : Int} {c : Nat} (hl : z.length ≤ sizeLine) (h : atI z.cps.toList i = some c) (k : Q (.str ⟨#[c]⟩) H) : rIx K (.str z) (.int i) H Q := .inr (.inr ⟨z, i, c, rfl, rfl, hl, h, k⟩)
theorem s_ixL {a : Addr} {xs : List V} {i : Int} (hl : SqL K H a xs) (h : atI xs i = some v) (k : Q v H) : rIx K (.ref a) (.int i) H Q := .inl ⟨a, xs, i, v, rfl, rfl, hl, h, k⟩
theorem s_ixT {a : Addr} {xs : List V} {i : Int} (hl : SqT K H a xs) (h : atI xs i = some v) (k : Q v H) : rIx K (.ref a) (.int i) H Q := .inr (.inl ⟨a, xs, i, v, rfl, rfl, hl, h, k⟩)
theorem iteD {c A B : Prop} [Decidable c] (h1 : c → A) (h2 : ¬ c → B) : if decide c = true then A else B := by
  by_cases h : c
  · rw [if_pos (decide_eq_true h)]; exact h1 h
  · rw [if_neg (by simp [h])]; exact h2 h
theorem iteN {c A B : Prop} [Decidable c] (h1 : ¬ c → A) (h2 : c → B) : if (!decide c) = true then A else B := by
  by_cases h : c
  · rw [if_neg (by simp [h])]; exact h2 h
  · rw [if_pos (by simp [h])]; exact h1 h
theorem iteB {b : Bool} {A B : Prop} (h1 : b = true → A) (h2 : b = false → B) : if b = true then A else B := by
  cases b with
  | true => exact h1 rfl
  | false => exact h2 rfl
end
/-! heaps -/
section
variable {H H' : Hp} {p a : Addr} {o u : HO}
theorem up (h : H p = none) (e : H a = some u) : upd H p o a = some u := by
  rw [upd_ne (ne_of_none e h)]; exact e
theorem same_new (h : H p = none) : Same H (upd H p o) := fun b x e => up h e
theorem same_mut (e : Same H H') (h : H p = none) : Same H (upd H' p o) := fun b x q => by
  rw [upd_ne (ne_of_none q h)]; exact e b x q
theorem same_t {K : PySem.W.Frag} {xs : List V} (e : Same H H') (h : SqT K H a xs) : SqT K H' a xs := by
  rcases h with (h | ⟨o, h⟩) | h
  · exact .inl (.inl (e _ _ h))
  · exact .inl (.inr ⟨o, e _ _ h⟩)
  · exact .inr h
end

/-! ### a comprehension without a test, over what stands still -/
/-- a walk of n turns over what stands at H: turn i gives x with S i x behind it -/
structure Still (J : It) (H : Hp) (n : Nat) (S : Nat → V → Hp → Prop) : Prop where
  go : ∀ i H', Same H H' → i < n → J.go i H'
  yl : ∀ i x H' H'', Same H H' → i < n → J.yld i H' x H'' → Same H' H'' ∧ S i x H''
  st : ∀ H', Same H H' → J.stop n H'
theorem still_list {K : PySem.W.Frag} {H : Hp} {a : Addr} {xs : List V} (h : SqL K H a xs) : Still (Itl K a) H xs.length (fun i x _ => xs[i]? = some x) where
  go := fun i H' s hi => ⟨xs, xs[i], s.seq h, List.getElem?_eq_getElem hi⟩
  yl := fun i x H' H'' s hi y => ⟨y.1 ▸ Same.refl _, y.2 xs (s.seq h)⟩
  st := fun H' s => ⟨xs, s.seq h, Nat.le_refl _⟩
theorem still_tup {K : PySem.W.Frag} {H : Hp} {a : Addr} {xs : List V} (h : SqT K H a xs) : Still (Itt K a) H xs.length (fun i x _ => xs[i]? = some x) where
  go := fun i H' s hi => ⟨xs, xs[i], same_t s h, List.getElem?_eq_getElem hi⟩
  yl := fun i x H' H'' s hi y => ⟨y.1 ▸ Same.refl _, y.2 xs (same_t s h)⟩
  st := fun H' s => ⟨xs, same_t s h, Nat.le_refl _⟩
theorem still_str {H : Hp} {z : Str} : Still (Its z) H z.cps.toList.length (fun i x _ => ∃ c, z.cps.toList[i]? = some c ∧ x = .str ⟨#[c]⟩) where
  go := fun i H' s hi => by show i < z.cps.size; simpa using hi
  yl := fun i x H' H'' s hi y => by
    obtain ⟨e, c, h1, h2⟩ := y
    exact ⟨e ▸ Same.refl _, c, by simpa using h1, h2⟩
  st := fun H' s => by show z.cps.size ≤ _; simp
theorem still_rng {H : Hp} {lo : Int} {n : Nat} : Still (Itr lo n) H n (fun i x _ => x = .int (lo + i)) where
  go := fun i H' s hi => hi
  yl := fun i x H' H'' s hi y => ⟨y.1 ▸ Same.refl _, y.2⟩
  st := fun H' s => Nat.le_refl _
theorem still_enum {K : PySem.W.Frag} {H : Hp} {a : Addr} {xs : List V} (h : SqL K H a xs) : Still (Ite K a) H xs.length (fun i x H'' => ∃ T v, x = .ref T ∧ H'' T = some (.tup [.int (i : Nat), v]) ∧ xs[i]? = some v) where
  go := fun i H' s hi => ⟨xs, xs[i], s.seq h, List.getElem?_eq_getElem hi⟩
  yl := fun i x H' H'' s hi y => by
    obtain ⟨T, v, e1, e2, e3, e4⟩ := y
    subst e3
    exact ⟨same_new e2, T, v, e1, upd_same, e4 xs (s.seq h)⟩
  st := fun H' s => ⟨xs, s.seq h, Nat.le_refl _⟩
def LcW (J : It) (g : TG) (te : TE) (vs : List Nat) (σ : L2.St) (H1 : Hp) (Q : VK) : Prop :=
  ∀ D, H1 D = none → ∃ W : Nat → Nat → Hp → Prop, (∃ m, W 0 m (upd H1 D (.lst []))) ∧ ∀ i m H, W i m H → (J.stop i H ∧ Q (.ref D) H) ∨ (J.go i H ∧ ∃ Nx : Hp → Prop, (∀ H', Nx H' → ∃ m', m' < m ∧ W (i + 1) m' H') ∧
    ∀ x H', J.yld i H x H' → g x (wipe σ vs) H' fun σ2 H2 => wipe σ2 vs = wipe σ vs ∧ tYes σ2 H2 fun b H3 => if b = true then te σ2 H3 fun y H4 => ∃ acc, H4 D = some (.lst acc) ∧ acc.length < sizeLine ∧ Nx (upd H4 D (.lst (acc ++ [y]))) else Nx H3)
theorem tyes_to {σ : L2.St} {H : Hp} {P P' : Hp → Prop} (h : P H) : tYes σ H fun b H3 => if b = true then P H3 else P' H3 := h
theorem lc_all {J : It} {g : TG} {te : TE} {vs : List Nat} {σ : L2.St} {H1 : Hp} {Q : VK} {n : Nat} {S : Nat → V → Hp → Prop} (T : Still J H1 n S) (R : Addr → Nat → V → Hp → Prop) (hn : n ≤ 100000)
    (hR : ∀ D i y H H', (∀ b o, b ≠ D → H b = some o → H' b = some o) → R D i y H → R D i y H')
    (hs : ∀ D i x acc H', H1 D = none → i < n → S i x H' → Same H1 H' → H' D = some (.lst acc) → ∀ Q' : VK, (∀ y H'', Same H' H'' → R D i y H'' → Q' y H'') → g x (wipe σ vs) H' fun σ2 H2 => wipe σ2 vs = wipe σ vs ∧ te σ2 H2 Q')
    (k : ∀ D ys H', H1 D = none → Same H1 H' → H' D = some (.lst ys) → ys.length = n → (∀ i y, ys[i]? = some y → R D i y H') → Q (.ref D) H')
    (hg : ∀ x σ1 H' (P P' : L2.St → Hp → Prop), (∀ s h, P s h → P' s h) → g x σ1 H' P → g x σ1 H' P') : LcW J g te vs σ H1 Q := by
  intro D hD
  refine ⟨fun i m H => m = n - i ∧ i ≤ n ∧ Same H1 H ∧ ∃ ys, H D = some (.lst ys) ∧ ys.length = i ∧ ∀ j y, ys[j]? = some y → R D j y H, ⟨n, rfl, Nat.zero_le _, same_new hD, [], upd_same, rfl, fun j y e => by simp at e⟩, ?_⟩
  rintro i m H ⟨rfl, hi, s, ys, hy, hl, hr⟩
  by_cases hlt : i < n
  · refine .inr ⟨T.go i H s hlt, fun H' => i + 1 ≤ n ∧ Same H1 H' ∧ ∃ ys, H' D = some (.lst ys) ∧ ys.length = i + 1 ∧ ∀ j y, ys[j]? = some y → R D j y H', fun H' p => ⟨n - (i + 1), by omega, rfl, p.1, p.2⟩, fun x H' yl => ?_⟩
    obtain ⟨sx, hS⟩ := T.yl i x H H' s hlt yl
    replace hy := sx _ _ hy
    replace s := s.trans sx
    replace hr := fun j y ez => hR D j y H H' (fun b o _ q => sx b o q) (hr j y ez)
    refine hg _ _ _ _ _ (fun s2 h2 z => And.intro z.1 (tyes_to z.2)) (hs D i x ys H' hD hlt hS s hy _ fun y H'' e hy' => ?_)
    refine ⟨ys, e _ _ hy, Nat.lt_of_lt_of_le (by omega : ys.length < 100001) (by rw [sizeLine_eq]; decide), hlt, same_mut (s.trans e) hD, ys ++ [y], upd_same, by rw [List.length_append, hl]; rfl, fun j z ez => ?_⟩
    have kp : ∀ b o, b ≠ D → H'' b = some o → upd H'' D (.lst (ys ++ [y])) b = some o := fun b o hb q => by rw [upd_ne hb]; exact q
    by_cases hj : j < ys.length
    · rw [List.getElem?_append_left hj] at ez
      exact hR D j z H'' _ kp (hR D j z H' _ (fun b o _ q => e b o q) (hr j z ez))
    · rw [List.getElem?_append_right (Nat.le_of_not_lt hj)] at ez
      have h0 : j - ys.length = 0 := by
        cases hq : j - ys.length with
        | zero => rfl
        | succ q => rw [hq] at ez; simp at ez
      rw [h0] at ez
      have ey : y = z := by simpa using ez
      have ej : j = i := by omega
      subst ey ej
      exact hR D j y H'' _ kp hy'
  · have ei : i = n := by omega
    subst ei
    exact .inl ⟨T.st H s, k D ys H hD s hy hl hr⟩
def ForW (J : It) (g : TG) (tb : TS) (D : Ends) (σ : L2.St) (H1 : Hp) : Prop := ∃ W : Nat → Nat → L2.St → Hp → Prop, (∃ m, W 0 m σ H1) ∧ ∀ i m σ H, W i m σ H →
  (J.stop i H ∧ D.nx σ H) ∨ (J.go i H ∧ ∃ N : L2.St → Hp → Prop, (∀ σ' H', N σ' H' → ∃ m', m' < m ∧ W (i + 1) m' σ' H') ∧ ∀ x H', J.yld i H x H' → g x σ H' fun σ2 H2 => tb { D with nx := N, ct := N, bk := D.nx } σ2 H2)
theorem for_all {J : It} {g : TG} {tb : TS} {D : Ends} {σ : L2.St} {H : Hp} {n : Nat} {S : Nat → V → Hp → Prop} (T : Still J H n S) (Pv : Nat → L2.St → Hp → Prop) (hP : ∀ i σ' H' H'', Same H' H'' → Pv i σ' H' → Pv i σ' H'') (h0 : Pv 0 σ H)
    (hs : ∀ i x σ' H', i < n → S i x H' → Same H H' → Pv i σ' H' → g x σ' H' fun σ2 H2 => tb { D with nx := fun s h => Same H h ∧ Pv (i + 1) s h, ct := fun s h => Same H h ∧ Pv (i + 1) s h, bk := D.nx } σ2 H2)
    (hd : ∀ σ' H', Same H H' → Pv n σ' H' → D.nx σ' H') : ForW J g tb D σ H := by
  refine ⟨fun i m σ' H' => m = n - i ∧ i ≤ n ∧ Same H H' ∧ Pv i σ' H', ⟨n, rfl, Nat.zero_le _, Same.refl _, h0⟩, ?_⟩
  rintro i m σ' H' ⟨rfl, hi, s, p⟩
  by_cases hlt : i < n
  · refine .inr ⟨T.go i H' s hlt, fun s' h' => Same H h' ∧ Pv (i + 1) s' h', fun s' h' q => ⟨n - (i + 1), by omega, rfl, hlt, q⟩, fun x H'' yl => ?_⟩
    obtain ⟨sx, hS⟩ := T.yl i x H' H'' s hlt yl
    exact hs i x σ' H'' hlt hS (s.trans sx) (hP i σ' H' H'' sx p)
  · have ei : i = n := by omega
    subst ei
    exact .inl ⟨T.st H' s, hd σ' H' s p⟩
theorem s_for {wi : TI} {g : TG} {tb : TS} {D : Ends} {σ : L2.St} {H : Hp} (k : wi σ H fun J H1 => ForW J g tb D σ H1) : tFor wi g tb D σ H := k
theorem s_enum {K : PySem.W.Frag} {ta : TA} {σ : L2.St} {H : Hp} {R : It → Hp → Prop} (k : ta σ H fun vs H1 => ∃ a xs, vs = [.ref a] ∧ SqL K H1 a xs ∧ R (Ite K a) H1) : iEnum K ta σ H R := k
theorem s_gT {K : PySem.W.Frag} {n : Nat} {t : TGs} {a : Addr} {xs : List V} {σ : L2.St} {H : Hp} {P : L2.St → Hp → Prop} (h : SqT K H a xs) (hl : xs.length = n) (k : t xs σ H P) : gTA K n t (.ref a) σ H P := .inl ⟨a, xs, rfl, h, hl, k⟩
theorem s_gL {K : PySem.W.Frag} {n : Nat} {t : TGs} {a : Addr} {xs : List V} {σ : L2.St} {H : Hp} {P : L2.St → Hp → Prop} (h : SqL K H a xs) (hl : xs.length = n) (k : t xs σ H P) : gTA K n t (.ref a) σ H P := .inr ⟨a, xs, rfl, h, hl, k⟩
theorem s_gcons {t : TG} {u : TGs} {v : V} {r : List V} {σ : L2.St} {H : Hp} {P : L2.St → Hp → Prop} (k : t v σ H fun σ' H' => u r σ' H' P) : gCons t u (v :: r) σ H P := ⟨v, r, rfl, k⟩
theorem s_gnil {σ : L2.St} {H : Hp} {P : L2.St → Hp → Prop} (k : P σ H) : gNil [] σ H P := ⟨rfl, k⟩
/-- an error of one field, of two -/
def Err1 (C : Addr) (f : Str) (v : V) (E : XK) (H : Hp) : Prop := ∀ (d : Addr) (H' : Hp), H d = none → Same H H' → H' d = some (.xd [(f, v)]) → E (.ref C) (some d) H'
def Err2 (C : Addr) (f f' : Str) (v v' : V) (E : XK) (H : Hp) : Prop := ∀ (d : Addr) (H' : Hp), H d = none → Same H H' → H' d = some (.xd [(f', v'), (f, v)]) → E (.ref C) (some d) H'
theorem Err1.mono {C : Addr} {f : Str} {v : V} {E : XK} {H H' : Hp} (e : Err1 C f v E H) (s : Same H H') : Err1 C f v E H' := fun d H2 hd s2 x => e d H2 (s.free hd) (s.trans s2) x
theorem Err2.mono {C : Addr} {f f' : Str} {v v' : V} {E : XK} {H H' : Hp} (e : Err2 C f f' v v' E H) (s : Same H H') : Err2 C f f' v v' E H' := fun d H2 hd s2 x => e d H2 (s.free hd) (s.trans s2) x

/-! ### the rules with the written part told (within a comprehension's block it must not hang on the block) -/
section
variable {X : Cx} (K : PySem.W.Frag)
theorem oAdd (h : X.K = K := by rfl) : OpR X (binaryOp .Add) (rAddA K) := h ▸ op_addA
theorem oEq (hu : X.A.units + 64 < cLine) (h : X.K = K := by rfl) : OpR X (compareOp .Eq) (rEqA K) := h ▸ op_eqA hu
theorem oNe (hu : X.A.units + 64 < cLine) (h : X.K = K := by rfl) : OpR X (compareOp .NotEq) (rNeA K) := h ▸ op_neA hu
theorem oIn (h : X.K = K := by rfl) : OpR X (compareOp .In) (rInA K) := h ▸ op_inA
theorem oNotIn (h : X.K = K := by rfl) : OpR X (compareOp .NotIn) (rNotInA K) := h ▸ op_notInA
theorem oSl (h : X.K = K := by rfl) : SlR X (rSlA K) := h ▸ sl_A
theorem oIx (h : X.K = K := by rfl) : IxR X (rIx K) := h ▸ ix_seq
def rLenA (K : PySem.W.Frag) : List V → Hp → VK → Prop := fun xs H Q => ∃ x n, xs = [x] ∧ LenV K x H n ∧ Q (.int n) H
theorem oLen (h : X.K = K := by rfl) : CallR X (.builtin "len") (rLenA K) := h ▸ call_len
def rTupOf (K : PySem.W.Frag) : List V → Hp → VK → Prop := fun xs H Q => ∃ p ys, xs = [.ref p] ∧ ((SqL K H p ys ∧ ∀ l, H l = none → Q (.ref l) (upd H l (.tup ys))) ∨ (SqT K H p ys ∧ Q (.ref p) H))
theorem oTuple (h : X.K = K := by rfl) : CallR X (.type "tuple") (rTupOf K) := h ▸ call_tuple_of
def rLstOf (K : PySem.W.Frag) : List V → Hp → VK → Prop := fun xs H Q => ∃ p ys, xs = [.ref p] ∧ (SqL K H p ys ∨ SqT K H p ys) ∧ ∀ l, H l = none → Q (.ref l) (upd H l (.lst ys))
theorem oList (h : X.K = K := by rfl) : CallR X (.type "list") (rLstOf K) := h ▸ call_list_of
theorem oSum (hc : X.calm = true) (h : X.K = K := by rfl) : CallR X (.builtin "sum") (rSum K) := h ▸ cr_sum hc
theorem oMax (hc : X.calm = true) (h : X.K = K := by rfl) : CallR X (.builtin "max") (rMax K) := h ▸ cr_max hc
theorem oMin (hc : X.calm = true) (h : X.K = K := by rfl) : CallR X (.builtin "min") (rMin K) := h ▸ cr_min hc
theorem oAny (hc : X.calm = true) (h : X.K = K := by rfl) : CallR X (.builtin "any") (rAny K) := h ▸ cr_any hc
theorem oAll (hc : X.calm = true) (h : X.K = K := by rfl) : CallR X (.builtin "all") (rAll K) := h ▸ cr_all hc
theorem oMaxD (hc : X.calm = true) (h : X.K = K := by rfl) : CallRK X (.builtin "max") ["default"] (rMaxD K) := h ▸ cr_maxD hc
theorem oIt {tg l : Expr} {te : TE} (e : PE X l te) (h : X.K = K := by rfl) : PI X tg l (iA K te) := h ▸ pi_A e
theorem oEnum {e : Expr} {ta : TA} {p pos tpos : Pos} {elts : List Expr} {kk : Nat} (hg : Gl X "enumerate") (hm : X.mg "enumerate" = none) (ha : PA X [e] ta) (h : X.K = K := by rfl) (hs : starEach [e] X.env = [(false, eval e X.env)] := by rfl) :
    PI X (.Tuple elts kk tpos) (.Call (.Name "enumerate" p) [e] [] pos) (iEnum K ta) := h ▸ pi_enum hg hm ha hs
theorem oTup {pos : Pos} {es : List Expr} {k : Nat} {t : TGs} {n : Nat} (hc : X.calm = true) (e : PGs X es t) (h : X.K = K := by rfl) (hn : (assignEach es X.env).length = n := by rfl) (hst : (assignEach es X.env).findIdx? (·.1) = none := by rfl) : PG X (.Tuple es k pos) (gTA K n t) := h ▸ pg_tupA hc e hn hst
theorem oFld {e : Expr} {ta : TE} {f : Str} {pos : Pos} (he : PE X e ta) (h : X.K = K := by rfl) (hb : attributeBase e f X.env (eval e X.env) = eval e X.env := by rfl) : PE X (.Attribute e f pos) (tFld K ta f) := h ▸ pe_fld he hb
theorem oApp {o e : Expr} {es : List Expr} {to : TE} {t : TA} {apos cpos : Pos} (ho : PE X o to) (ha : PA X (e :: es) t) (h : X.K = K := by rfl) (hbase : attributeBase o "append" X.env (eval o X.env) = eval o X.env := by rfl)
    (hp : PE X (.Call (.Attribute o "append" apos) (e :: es) [] cpos) (tBM X.K "list" rAppend to t)) : PE X (.Call (.Attribute o "append" apos) (e :: es) [] cpos) (tBM K "list" rAppend to t) := h ▸ hp
end
section
variable {σ : L2.St} {H : Hp} {Q : VK} {K : PySem.W.Frag}
theorem s_mkO {C : Addr} {sp : Sp} {ta : TA} {Q : XK} (k : ta σ H fun vs H1 => vs.length ≤ 1000 ∧ ∀ a, H1 a = none → sp (.ref a :: (vs ++ [])) (upd H1 a (exo a C none)) (fun v H2 => v = .non ∧ ∃ (d : Addr) (fs : List (Str × V)), H2 a = some (exo a C (some d)) ∧ H2 d = some (exd d fs) ∧ H1 d = none ∧ Q (.ref C) (some d) (upd (del H2 a) d (.xd fs))) (fun _ _ _ => False)) : tMkO C sp [] ta σ H Q := k
theorem s_lenS {z : Str} (h : z.length ≤ sizeLine) (k : Q (.int z.length) H) : rLenA K [.str z] H Q := ⟨.str z, z.length, rfl, ⟨h, rfl⟩, k⟩
theorem s_lenL {a : Addr} {xs : List V} (h : SqL K H a xs) (k : Q (.int xs.length) H) : rLenA K [.ref a] H Q := ⟨.ref a, xs.length, rfl, .inl ⟨xs, h, rfl⟩, k⟩
theorem s_lenT {a : Addr} {xs : List V} (h : SqT K H a xs) (k : Q (.int xs.length) H) : rLenA K [.ref a] H Q := ⟨.ref a, xs.length, rfl, .inr ⟨xs, h, rfl⟩, k⟩
theorem s_lc {wi : TI} {g : TG} {te : TE} {vs : List Nat} (k : wi σ H fun J H1 => LcW J g te vs σ H1 Q) : tLc wi g tYes te vs σ H Q := k
theorem s_itS {te : TE} {R : It → Hp → Prop} (k : te σ H fun v H1 => ∃ x, v = .str x ∧ R (Its x) H1) : iA K te σ H R := .inr (.inr k)
theorem s_itL {te : TE} {R : It → Hp → Prop} (k : te σ H fun x H1 => ∃ a, x = .ref a ∧ (∃ xs, SqL K H1 a xs) ∧ R (Itl K a) H1) : iA K te σ H R := .inl k
theorem s_itT {te : TE} {R : It → Hp → Prop} (k : te σ H fun x H1 => ∃ a, x = .ref a ∧ (∃ xs, SqT K H1 a xs) ∧ R (Itt K a) H1) : iA K te σ H R := .inr (.inl k)
theorem s_all {a : Addr} {bs : List Bool} (h : SqL K H a (bs.map V.bl)) (k : Q (.bl (bs.all id)) H) : rAll K [.ref a] H Q := ⟨a, bs, rfl, h, k⟩
theorem s_any {a : Addr} {bs : List Bool} (h : SqL K H a (bs.map V.bl)) (k : Q (.bl (bs.any id)) H) : rAny K [.ref a] H Q := ⟨a, bs, rfl, h, k⟩
theorem s_sum {a : Addr} {ns : List Int} (h : SqL K H a (ns.map V.int)) (k : Q (.int ns.sum) H) : rSum K [.ref a] H Q := ⟨a, ns, rfl, h, k⟩
theorem s_tupL {a : Addr} {xs : List V} (h : SqL K H a xs) (k : ∀ l, H l = none → Q (.ref l) (upd H l (.tup xs))) : rTupOf K [.ref a] H Q := ⟨a, xs, rfl, .inl ⟨h, k⟩⟩
theorem s_tupT {a : Addr} {xs : List V} (h : SqT K H a xs) (k : Q (.ref a) H) : rTupOf K [.ref a] H Q := ⟨a, xs, rfl, .inr ⟨h, k⟩⟩
theorem s_lstL {a : Addr} {xs : List V} (h : SqL K H a xs) (k : ∀ l, H l = none → Q (.ref l) (upd H l (.lst xs))) : rLstOf K [.ref a] H Q := ⟨a, xs, rfl, .inl h, k⟩
theorem s_lstT {a : Addr} {xs : List V} (h : SqT K H a xs) (k : ∀ l, H l = none → Q (.ref l) (upd H l (.lst xs))) : rLstOf K [.ref a] H Q := ⟨a, xs, rfl, .inr h, k⟩
theorem ge_map {α β : Type} {f : α → β} {l : List α} {m : List β} (hl : m.length = l.length) (h : ∀ (i : Nat) y, m[i]? = some y → ∃ x, l[i]? = some x ∧ y = f x) : m = l.map f := by
  apply List.ext_getElem?
  intro i
  rw [List.getElem?_map]
  cases e : m[i]? with
  | none =>
    have : l[i]? = none := by rw [List.getElem?_eq_none_iff] at e ⊢; omega
    rw [this]; rfl
  | some y =>
    obtain ⟨x, e2, rfl⟩ := h i y e
    rw [e2]; rfl
theorem gn_mono {i : Nat} : ∀ x σ1 H' (P P' : L2.St → Hp → Prop), (∀ s h, P s h → P' s h) → gName i x σ1 H' P → gName i x σ1 H' P' := fun _ _ _ _ _ h q => h _ _ q
theorem iteNF {A B : Prop} (h : A) : if (!false) = true then A else B := h
theorem iteNT {A B : Prop} (h : B) : if (!true) = true then A else B := h
theorem atI0 {α : Type} {c : α} {r : List α} : atI (c :: r) 0 = some c := atI_nat (j := 0) rfl
theorem line_of {n : Nat} (h : n ≤ 100000) : n ≤ sizeLine := Nat.le_trans h (by rw [sizeLine_eq]; decide)
theorem line_lt {n : Nat} (h : n ≤ 100000) : n < sizeLine := Nat.lt_of_le_of_lt h (by rw [sizeLine_eq]; decide)
theorem s_slL {a : Addr} {xs : List V} {lo hi : Option Int} (h : SqL K H a xs) (k : ∀ p, H p = none → Q (.ref p) (upd H p (.lst (cutV xs lo hi)))) : rSlA K (.ref a) lo hi H Q := .inl ⟨a, xs, rfl, h, k⟩
theorem s_slS {z : Str} {lo hi : Option Int} (h : z.length ≤ sizeLine) (k : Q (.str (PySem.Txt.slice z lo hi)) H) : rSlA K (.str z) lo hi H Q := .inr (.inr ⟨z, rfl, h, k⟩)
theorem cut_to (xs : List V) (i : Nat) : cutV xs none (some (i : Int)) = xs.take i := by
  unfold cutV
  rw [HT.sIx_none, HT.sIx_nat]
  show List.take (min i xs.length - 0) (xs.drop 0) = _
  rw [List.drop_zero, Nat.sub_zero]
  by_cases h : i ≤ xs.length
  · rw [Nat.min_eq_left h]
  · rw [Nat.min_eq_right (by omega), List.take_length, List.take_of_length_le (by omega)]
theorem s_inL {x : V} {a : Addr} {xs : List V} (h : SqL K H a xs) (hx : flatV x = true) (hs : xs.all flatV = true) (k : Q (.bl (inV x xs)) H) : rInA K x (.ref a) H Q := .inr ⟨a, xs, rfl, .inl h, hx, hs, k⟩
theorem s_inT {x : V} {a : Addr} {xs : List V} (h : SqT K H a xs) (hx : flatV x = true) (hs : xs.all flatV = true) (k : Q (.bl (inV x xs)) H) : rInA K x (.ref a) H Q := .inr ⟨a, xs, rfl, .inr h, hx, hs, k⟩
theorem flat_strs (zs : List Str) : (zs.map V.str).all flatV = true := by
  rw [List.all_map]; exact List.all_eq_true.mpr fun _ _ => rfl
theorem inV_strs (z : Str) (zs : List Str) : inV (.str z) (zs.map V.str) = decide (z ∈ zs) := by
  unfold inV
  rw [List.any_map]
  by_cases h : z ∈ zs
  · rw [decide_eq_true h]
    exact List.any_eq_true.mpr ⟨z, h, by show (z == z) = true; simp⟩
  · rw [decide_eq_false h]
    refine List.any_eq_false.mpr fun y hy => ?_
    show ¬ (y == z) = true
    intro e
    have : y = z := by simpa using e
    exact h (this ▸ hy)
theorem s_sfld {ta tv : TE} {f : Str} {D : Ends} (k : tv σ H fun y H1 => ta σ H1 fun x H2 => ∃ a C dx fs, x = .ref a ∧ H2 a = some (.ins C dx fs) ∧ Cls K C ∧ NoAttr K C f ∧ fs.length < 1000 ∧ D.nx σ (upd H2 a (.ins C dx (putF f y fs)))) : sFld K ta tv f D σ H := k
theorem tg_mono {n : Nat} {t : TGs} (h : ∀ (xs : List V) (σ : L2.St) (H : Hp) (P P' : L2.St → Hp → Prop), (∀ s h, P s h → P' s h) → t xs σ H P → t xs σ H P') : ∀ x σ1 H' (P P' : L2.St → Hp → Prop), (∀ s h, P s h → P' s h) → gTA K n t x σ1 H' P → gTA K n t x σ1 H' P' := by
  rintro x σ1 H' P P' m (⟨a, xs, e, q, l, k⟩ | ⟨a, xs, e, q, l, k⟩)
  · exact .inl ⟨a, xs, e, q, l, h _ _ _ _ _ m k⟩
  · exact .inr ⟨a, xs, e, q, l, h _ _ _ _ _ m k⟩
theorem tgc_mono {i : Nat} {t : TGs} (h : ∀ (xs : List V) (σ : L2.St) (H : Hp) (P P' : L2.St → Hp → Prop), (∀ s h, P s h → P' s h) → t xs σ H P → t xs σ H P') : ∀ (xs : List V) (σ : L2.St) (H : Hp) (P P' : L2.St → Hp → Prop), (∀ s h, P s h → P' s h) → gCons (gName i) t xs σ H P → gCons (gName i) t xs σ H P' := by
  rintro xs σ H P P' m ⟨v, r, e, k⟩
  exact ⟨v, r, e, h _ _ _ _ _ m k⟩
theorem tgn_mono : ∀ (xs : List V) (σ : L2.St) (H : Hp) (P P' : L2.St → Hp → Prop), (∀ s h, P s h → P' s h) → gNil xs σ H P → gNil xs σ H P' := fun _ _ _ _ _ m k => ⟨k.1, m _ _ k.2⟩
/-- the things at some addresses, one by one -/
def AllAt {α : Type} (R : Addr → α → Hp → Prop) (H : Hp) (as : List Addr) (xs : List α) : Prop := as.length = xs.length ∧ ∀ (i : Nat) a x, as[i]? = some a → xs[i]? = some x → R a x H
theorem AllAt.mono {α : Type} {R : Addr → α → Hp → Prop} {H H' : Hp} {as : List Addr} {xs : List α} (h : AllAt R H as xs) (m : ∀ a x, R a x H → R a x H') : AllAt R H' as xs := ⟨h.1, fun i a x e1 e2 => m a x (h.2 i a x e1 e2)⟩
theorem AllAt.get {α : Type} {R : Addr → α → Hp → Prop} {H : Hp} {as : List Addr} {xs : List α} (h : AllAt R H as xs) {i : Nat} {v : V} (e : (as.map V.ref)[i]? = some v) : ∃ a x, as[i]? = some a ∧ v = .ref a ∧ xs[i]? = some x ∧ R a x H := by
  rw [List.getElem?_map] at e
  cases q : as[i]? with
  | none => rw [q] at e; cases e
  | some a =>
    rw [q] at e
    have hi : i < xs.length := by rw [← h.1]; exact (List.getElem?_eq_some_iff.mp q).1
    exact ⟨a, xs[i], rfl, (Option.some.inj e).symm, List.getElem?_eq_getElem hi, h.2 i a _ q (List.getElem?_eq_getElem hi)⟩
/-- from the values of a new list to addresses -/
theorem allAt_of {α : Type} {R : Addr → α → Hp → Prop} {H : Hp} {ys : List V} {xs : List α} (hl : ys.length = xs.length) (h : ∀ (i : Nat) y, ys[i]? = some y → ∃ a x, y = .ref a ∧ xs[i]? = some x ∧ R a x H) : ∃ as : List Addr, ys = as.map V.ref ∧ AllAt R H as xs := by
  refine ⟨ys.map fun y => match y with | .ref a => a | _ => 0, ?_, by rw [List.length_map]; exact hl, fun i a x e1 e2 => ?_⟩
  · apply List.ext_getElem?
    intro i
    rw [List.map_map, List.getElem?_map]
    cases e : ys[i]? with
    | none => rfl
    | some y => obtain ⟨a, x, rfl, _⟩ := h i y e; rfl
  · rw [List.getElem?_map] at e1
    cases e : ys[i]? with
    | none => rw [e] at e1; cases e1
    | some y =>
      obtain ⟨b, x', rfl, e3, r⟩ := h i y e
      rw [e] at e1
      cases e1
      rw [e3] at e2; cases e2
      exact r
theorem findSome_at {α β : Type} {f : α → Option β} : ∀ {l : List α} {i : Nat} {x : α} {r : β}, (∀ j y, j < i → l[j]? = some y → f y = none) → l[i]? = some x → f x = some r → l.findSome? f = some r
  | [], i, x, r, _, h, _ => by simp at h
  | y :: l, 0, x, r, _, h, hr => by
    have e : y = x := by simpa using h
    subst e
    simp [List.findSome?, hr]
  | y :: l, i + 1, x, r, hb, h, hr => by
    rw [List.findSome?_cons, hb 0 y (Nat.succ_pos _) rfl]
    exact findSome_at (fun j z hj e => hb (j + 1) z (Nat.succ_lt_succ hj) e) h hr
theorem findSome_no {α β : Type} {f : α → Option β} {l : List α} (h : ∀ (j : Nat) y, l[j]? = some y → f y = none) : l.findSome? f = none := by
  refine List.findSome?_eq_none_iff.mpr fun x hx => ?_
  obtain ⟨j, hj, e⟩ := List.mem_iff_getElem.mp hx
  exact h j x (by rw [List.getElem?_eq_getElem hj, e])
/-- a comprehension of two clauses over nothing -/
theorem s_lc2n {wi : TI} {g : TG} {tt : TT} {wi1 : TI} {g1 : TG} {tt1 : TT} {te : TE} {vs vs1 : List Nat} (k : wi σ H fun J H1 => ∃ S, Still J H1 0 S ∧ ∀ D, H1 D = none → Q (.ref D) (upd H1 D (.lst []))) (hw : ∀ (R R' : It → Hp → Prop), (∀ J H, R J H → R' J H) → wi σ H R → wi σ H R') : tLc2 wi g tt wi1 g1 tt1 te vs vs1 σ H Q := by
  refine hw _ _ (fun J H1 hh => ?_) k
  obtain ⟨S, T, k⟩ := hh
  exact fun D hD => ⟨fun i m H' => i = 0 ∧ H' = upd H1 D (.lst []), ⟨0, rfl, rfl⟩, fun i m H' h => by
    obtain ⟨rfl, rfl⟩ := h
    exact .inl ⟨T.st _ (same_new hD), k D hD⟩⟩
theorem iA_mono {te : TE} (ht : ∀ (R R' : V → Hp → Prop), (∀ v h, R v h → R' v h) → te σ H R → te σ H R') (R R' : It → Hp → Prop) (m : ∀ J H, R J H → R' J H) : iA K te σ H R → iA K te σ H R' := by
  rintro (h | h | h)
  · exact .inl (ht _ _ (fun v h' ⟨a, e, q, r⟩ => ⟨a, e, q, m _ _ r⟩) h)
  · exact .inr (.inl (ht _ _ (fun v h' ⟨a, e, q, r⟩ => ⟨a, e, q, m _ _ r⟩) h))
  · exact .inr (.inr (ht _ _ (fun v h' ⟨x, e, r⟩ => ⟨x, e, m _ _ r⟩) h))
theorem var_mono {i : Nat} (R R' : V → Hp → Prop) (m : ∀ v h, R v h → R' v h) : tVar i σ H R → tVar i σ H R' := fun ⟨v, e, r⟩ => ⟨v, e, m _ _ r⟩
theorem fld_mono {i : Nat} {f : Str} (R R' : V → Hp → Prop) (m : ∀ v h, R v h → R' v h) : tFld K (tVar i) f σ H R → tFld K (tVar i) f σ H R' := fun ⟨v, e, a, C, dx, fs, u, h1, h2, h3, h4, h5, r⟩ => ⟨v, e, a, C, dx, fs, u, h1, h2, h3, h4, h5, m _ _ r⟩
theorem lc_nil {J : It} {g : TG} {te : TE} {vs : List Nat} {H1 : Hp} {S : Nat → V → Hp → Prop} (T : Still J H1 0 S) (k : ∀ D, H1 D = none → Q (.ref D) (upd H1 D (.lst []))) : LcW J g te vs σ H1 Q := fun D hD =>
  ⟨fun i m H' => i = 0 ∧ H' = upd H1 D (.lst []), ⟨0, rfl, rfl⟩, fun i m H' h => by
    obtain ⟨rfl, rfl⟩ := h
    exact .inl ⟨T.st _ (same_new hD), k D hD⟩⟩
theorem s_ckw {r : List V → List V → Hp → VK → Prop} {t tk : TA} (k : t σ H fun vs H1 => tk σ H1 fun zs H2 => r vs zs H2 Q) : tCKw r t tk σ H Q := k
theorem s_maxD {a : Addr} {ns : List Int} {d : Int} (h : SqL K H a (ns.map V.int)) (k0 : ns = [] → Q (.int d) H) (k : ∀ m, ns ≠ [] → m ∈ ns → (∀ y, y ∈ ns → y ≤ m) → Q (.int m) H) : rMaxD K [.ref a] [.int d] H Q := ⟨a, ns, d, rfl, rfl, h, k0, k⟩
theorem s_gsub {to ti : TE} {t : TSet} {v : V} {P : L2.St → Hp → Prop} (k : to σ H fun o H1 => ti σ H1 fun i H2 => t o i v H2 fun H3 => P σ H3) : gSub to ti t v σ H P := k
theorem s_setL {a : Addr} {xs : List V} {j : Nat} {v : V} {R : Hp → Prop} (h : H a = some (.lst xs)) (hj : j < xs.length) (q : R (upd H a (.lst (xs.set j v)))) : rSetL (.ref a) (.int (j : Int)) v H R := ⟨a, xs, j, j, rfl, rfl, h, by
  unfold ixN
  rw [if_pos (by omega), if_pos (by omega)]
  simp, q⟩
theorem atI_ex {α : Type} {xs : List α} {i : Int} (h0 : 0 ≤ i) (h1 : i < xs.length) : ∃ v, atI xs i = some v := by
  obtain ⟨j, rfl⟩ : ∃ j : Nat, i = (j : Int) := ⟨i.toNat, by omega⟩
  exact ⟨xs[j], atI_nat (List.getElem?_eq_getElem (by omega))⟩
theorem s_rng1 {ta : TA} {R : It → Hp → Prop} (k : ta σ H fun vs H1 => ∃ j : Int, vs = [.int j] ∧ -(2 ^ 62) ≤ j ∧ j < 2 ^ 62 ∧ R (Itr 0 j.toNat) H1) : iRng1 ta σ H R := k
theorem s_absI {i : Int} (k : Q (.int (if i < 0 then -i else i)) H) : ∃ j, [V.int i] = [.int j] ∧ Q (.int (if j < 0 then -j else j)) H := ⟨i, rfl, k⟩
theorem s_intB {b : Bool} (k : Q (.int (if b then 1 else 0)) H) : (∃ i, [V.bl b] = [.int i] ∧ Q (.int i) H) ∨ ∃ k, [V.bl b] = [.bl k] ∧ Q (.int (if k then 1 else 0)) H := .inr ⟨b, rfl, k⟩
theorem s_intI {i : Int} (k : Q (.int i) H) : (∃ j, [V.int i] = [.int j] ∧ Q (.int j) H) ∨ ∃ k, [V.int i] = [.bl k] ∧ Q (.int (if k then 1 else 0)) H := .inl ⟨i, rfl, k⟩
/-- all but one object stand as they were -/
def But (s : Addr) (H H' : Hp) : Prop := ∀ b o, H b = some o → b ≠ s → H' b = some o
theorem But.refl {s : Addr} {H : Hp} : But s H H := fun _ _ e _ => e
theorem But.trans {s : Addr} {H H1 H2 : Hp} (a : But s H H1) (b : But s H1 H2) : But s H H2 := fun x o e n => b x o (a x o e n) n
theorem But.of {s : Addr} {H H' : Hp} (a : Same H H') : But s H H' := fun x o e _ => a x o e
theorem But.upd {s : Addr} {H : Hp} {o : HO} : But s H (upd H s o) := fun x u e n => by rw [upd_ne n]; exact e
theorem But.same {s : Addr} {H H1 H' : Hp} (a : Same H H1) (hs : H s = none) (b : But s H1 H') : Same H H' := fun x o e => b x o (a x o e) (ne_of_none e hs)
theorem new_facts {H H' : Hp} {p : Addr} {o : HO} (e : upd H p o = H') (hp : H p = none) : Same H H' ∧ H' p = some o := e ▸ ⟨same_new hp, upd_same⟩
theorem made_facts {H H' : Hp} {x dx C : Addr} (e : upd (upd H dx (.own x)) x (.ins C dx []) = H') (nx : H x = none) (nd : H dx = none) (ne : dx ≠ x) : Same H H' ∧ H' x = some (.ins C dx []) := e ▸ ⟨(same_new nd).trans (same_new (by rw [upd_ne ne.symm]; exact nx)), upd_same⟩
theorem s_meth {C : Addr} {m : Str} {sp : Sp} {E : L2.St → XK} {ta : TE} {t : TA} (k : ta σ H fun x H1 => ∃ a dx fs, x = .ref a ∧ H1 a = some (.ins C dx fs) ∧ fs.lookup m = none ∧ t σ H1 fun vs H2 => sp (x :: vs) H2 Q (E σ)) : tMethS C m sp E ta t σ H Q := k
theorem s_make {C : Addr} {sp : Sp} {E : L2.St → XK} {t : TA} (k : t σ H fun vs H1 => ∀ x dx, H1 x = none → H1 dx = none → dx ≠ x → sp (.ref x :: vs) (upd (upd H1 dx (.own x)) x (.ins C dx [])) (fun v H2 => v = .non ∧ Q (.ref x) H2) (E σ)) : tMakeS C sp E t σ H Q := k
end

/-! ### == and != by an own __eq__ that tells either answer -/
theorem ifBound_ne {M : Model} {A : Around} {E : Value → Shared → Prop} {s : Shared} {K : PySem.W.Frag} {x C : Addr} {ox : Obj} {od : Option Obj} {args : List Value} {Q : Option Value → Shared → Prop}
    (X : K.In s.heap) (I : PySem.W.InstAt s.heap x ox C od) (hs : PySem.W.findIn K (.ref C) "__ne__" = some (some (.builtin "object.__ne__"))) (h : wpAny M A (call (.builtin "object.__ne__") (.ref x :: args)) (fun v => Q (some v)) E s) :
    wpAny M A (callSpecialIfBound? (.ref x) "__ne__" args) Q E s := by
  have fin := wpAny_bind (f := fun v => pure (some v)) (wpAny_mono h (fun v s' h' => wpAny_pure h') fun _ _ h' => h')
  refine wpAny_holding (wpAny_bind (wpAny_bind (wpAny_bind (PySem.W.Looks.here I.type (PySem.W.Looks.here (PySem.W.looks_findIn X hs) (wpAny_bind (wpAny_askSetting (wpAny_ite ?_))))))))
  split
  · exact wpAny_bind (wpAny_of_eq (F.cmp_object.ne.bind (Value.ref x)) (wpAny_pure fin))
  · exact wpAny_tryCatch (wpAny_bind (wpAny_of_eq (F.cmp_object.ne.bind (Value.ref x)) (wpAny_pure fin)))
theorem call_ne {prog : Program} {w : World} {A : Around} {E : Value → Shared → Prop} {s : Shared} {K : PySem.W.Frag} {x C f : Addr} {ox : Obj} {od : Option Obj} {b : Value} {Q : Value → Shared → Prop}
    (hu : A.units + 1 < cLine) (X : K.In s.heap) (I : PySem.W.InstAt s.heap x ox C od) (hm : PySem.W.mroIn K C (.type "object") = some true) (he : PySem.W.findIn K (.ref C) "__eq__" = some (some (.ref f))) (hf : PySem.W.isFn K (.ref f) = true)
    (h : wpAny (model prog w) A.in1 (call (.ref f) [.ref x, b]) (fun v s' => ∃ c, v = .bool c ∧ Q (.bool !c) s') E s) :
    wpAny (model prog w) A (call (.builtin "object.__ne__") [.ref x, b]) Q E s := by
  refine wpAny_call (codeAny_call_builtin F.cmp_object.ne.plain F.cmpEntry_ne ?_)
  refine PySem.W.check_slot F.cmpKind_ne F.cmpSplit_ne ?_ (F.cmpArgs_ne _ _) ?_
  · exact PySem.W.Looks.andThen I.type (PySem.W.looks_mroIn X hm)
  · show wpAny _ _ (Builtin.«object.__ne__» _) _ _ _
    unfold Builtin.«object.__ne__»
    refine wpAny_bind ?_
    refine wpAny_pure ?_
    refine wpAny_bind (wpAny_cRoomFor hu ?_)
    refine wpAny_bind (PySem.W.ifBound_K X I he hf (wpAny_mono h (fun v s' h' => ?_) fun _ _ q => q))
    obtain ⟨c, rfl, q⟩ := h'
    exact wpAny_bind (wpAny_truthy_bool (wpAny_pure q))
theorem rc_ne {prog : Program} {w : World} {A : Around} {E : Value → Shared → Prop} {s : Shared} {K : PySem.W.Frag} {x y C f : Addr} {ox oy : Obj} {od od' : Option Obj} {Q : Value → Shared → Prop}
    (hu : A.units + 1 < cLine) (X : K.In s.heap) (I : PySem.W.InstAt s.heap x ox C od) (J : PySem.W.InstAt s.heap y oy C od') (hm : PySem.W.mroIn K C (.type "object") = some true) (he : PySem.W.findIn K (.ref C) "__eq__" = some (some (.ref f))) (hs : PySem.W.findIn K (.ref C) "__ne__" = some (some (.builtin "object.__ne__"))) (hf : PySem.W.isFn K (.ref f) = true)
    (h : wpAny (model prog w) A.in1 (call (.ref f) [.ref x, .ref y]) (fun v s' => ∃ c, v = .bool c ∧ Q (.bool !c) s') E s) :
    wpAny (model prog w) A (richCompare .NotEq (.ref x) (.ref y)) Q E s := by
  unfold richCompare
  refine wpAny_holding (wpAny_bind (wpAny_cRoomFor (by omega) (wpAny_bind (PySem.W.Looks.here I.type (wpAny_bind (PySem.W.Looks.here J.type ?_))))))
  have e : ((Value.ref C != Value.ref C) = true) = False := by simp
  rw [if_neg (by simp)]
  refine wpAny_bind (wpAny_pure (wpAny_bind ?_))
  refine wpAny_bind (ifBound_ne X I hs (call_ne hu X I hm he hf (wpAny_mono h (fun v s' h' => ?_) fun _ _ q => q)))
  obtain ⟨c, rfl, q⟩ := h'
  exact ⟨c, rfl, wpAny_pure (wpAny_pure q)⟩
/-- a class's own __eq__ -/
structure OwnE (P : Program) (w : World) (K : PySem.W.Frag) (mg : Str → Option Value) (base : Heap) (CX : CXT) (k : Nat) (C : Addr) (sp : Sp) : Prop where
  ex : ∃ (f : Addr) (fd : FuncData) (ps : List Str), FnOk P w K mg base CX k f fd ps sp ∧ PySem.W.findIn K (.ref C) "__eq__" = some (some (.ref f)) ∧ PySem.W.isFn K (.ref f) = true ∧ Binds K fd ps [] ∧
    PySem.W.findIn K (.ref C) "__ne__" = some (some (.builtin "object.__ne__")) ∧ PySem.W.mroIn K C (.type "object") = some true ∧ PySem.W.notFirst K C (.type "str") = true
def spB (sp : Sp) (E : XK) (x y : V) (H : Hp) (Q : Bool → Hp → Prop) : Prop := sp [x, y] H (fun v H' => ∃ b, v = .bl b ∧ Q b H') E
def rOwnEq (C : Addr) (sp : Sp) (E : XK) : R2 := fun x y H Q => ∃ a dx fs, x = .ref a ∧ H a = some (.ins C dx fs) ∧ ((∃ z, y = .str z) ∨ ∃ b dy gs, y = .ref b ∧ H b = some (.ins C dy gs)) ∧ spB sp E x y H fun b H' => Q (.bl b) H'
def rOwnNe (C : Addr) (sp : Sp) (E : XK) : R2 := fun x y H Q => ∃ a dx fs b dy gs, x = .ref a ∧ H a = some (.ins C dx fs) ∧ y = .ref b ∧ H b = some (.ins C dy gs) ∧ spB sp E x y H fun b H' => Q (.bl (!b)) H'
/-- the call of an own __eq__ from within -/
theorem run_own {X : Cx} {CX : CXT} {n : Nat} {f : Addr} {fd : FuncData} {ps : List Str} {sp : Sp} {E : XK} {A : Around} {pins : List (Addr × Obj)} {s : Shared} {σ : L2.St} {H : Hp} {x y : V} {u v : Value} {Q : Bool → Hp → Prop}
    (F : FnOk X.prog X.w X.K X.mg X.base CX n f fd ps sp) (hb : Binds X.K fd ps []) (hx : Passes CX X E) (hr : Room n A) (hf : A.frames = X.A.frames) (I : L2.Inv X pins σ H s) (rx : RelV x u) (ry : RelV y v) (h : spB sp E x y H Q) :
    wpAny (model X.prog X.w) A (call (.ref f) [u, v]) (fun r s' => ∃ c, r = .bool c ∧ ∃ H', L2.Inv X pins σ H' s' ∧ Q c H') X.xe s := by
  have e := I.env0
  have e0 : Env0 X.prog X.w X.K X.mg X.base A X.stack s H := ⟨by rw [hf]; exact e.frames, e.mod, e.bs, e.bsz, e.funs, e.frf, e.hok, e.bare⟩
  have hl := F.len _ _ _ _ h
  have b := hb s [u, v] I.kIn (by simpa using hl)
  rw [List.append_nil] at b
  refine wpAny_call (codeAny_mono (F.run A X.stack s H { pos := [u, v] } [u, v] [x, y] _ E hr e0 b (.cons rx (.cons ry .nil)) h) ?_)
  intro r s' q
  match r, q with
  | .ok (.ret z), q =>
    obtain ⟨v', H', I', rv, c, rfl, qq⟩ := I.after q
    exact ⟨c, rv, H', I', qq⟩
  | .error e, q => exact hx pins σ H s e s' I q
theorem op_ownEq {X : Cx} {n j : Nat} {C : Addr} {sp : Sp} {E : XK} (c : OwnE X.prog X.w X.K X.mg X.base CX0 n C sp) (hr : Room j X.A) (hk : n ≤ j) : OpR X (compareOp .Eq) (rOwnEq C sp E) := by
  intro pins s σ H x y v u Q I rx ry h
  obtain ⟨f, fd, ps, F, hs, hf, hb, hs', hm, hn⟩ := c.ex
  obtain ⟨a, dx, fs, rfl, ha, hy, h⟩ := h
  have hr' := hr.mono hk
  cases rx
  obtain ⟨mA, J, _⟩ := ins_get I.hok ha
  obtain ⟨od, J, _⟩ := J.look
  obtain ⟨m, hF⟩ := I.fr
  have fin := wpAny_mono (run_own (CX := CX0) F hb (fun _ _ _ _ _ _ _ h => h.elim) hr' rfl I (x := .ref a) rfl ry h) (Q' := PySem.W.CmpBack (EP X pins σ Q)) (fun r s' ⟨c, e, H', I', q⟩ => by subst e; exact ⟨.bl c, H', I', rfl, q⟩) fun _ _ q => q
  rcases hy with ⟨z, rfl⟩ | ⟨b, dy, gs, rfl, hb'⟩
  · obtain ⟨t, rfl⟩ := ry
    exact PySem.W.cmp_ofEq (PySem.W.cmp_K hr.units0 hF I.ok.mod.kin J (tb := .type "str") (fun _ _ _ _ _ q => wpAny_pure q) hn hs hf fin)
  · cases ry
    obtain ⟨mB, J', _⟩ := ins_get I.hok hb'
    obtain ⟨od', J', _⟩ := J'.look
    exact PySem.W.cmp_ofEq (PySem.W.cmp_K hr.units0 hF I.ok.mod.kin J J'.type (by simp [PySem.W.notFirst]) hs hf fin)
theorem op_ownNe {X : Cx} {n j : Nat} {C : Addr} {sp : Sp} {E : XK} (c : OwnE X.prog X.w X.K X.mg X.base CX0 n C sp) (hr : Room j X.A) (hk : n + 1 ≤ j) : OpR X (compareOp .NotEq) (rOwnNe C sp E) := by
  intro pins s σ H x y v u Q I rx ry h
  obtain ⟨f, fd, ps, F, hs, hf, hb, hs', hm, hn⟩ := c.ex
  obtain ⟨a, dx, fs, b, dy, gs, rfl, ha, rfl, hb', h⟩ := h
  have hr' := hr.mono hk
  cases rx
  cases ry
  obtain ⟨mA, J, _⟩ := ins_get I.hok ha
  obtain ⟨od, J, _⟩ := J.look
  obtain ⟨mB, J', _⟩ := ins_get I.hok hb'
  obtain ⟨od', J', _⟩ := J'.look
  have sb : L2.Sub X (n + 1) X.A := ⟨hr', rfl⟩
  refine PySem.W.cmp_ofNotEq (rc_ne (by have := hr.un; omega) I.kIn J J' hm hs hs' hf ?_)
  exact wpAny_mono (run_own (CX := CX0) F hb (fun _ _ _ _ _ _ _ h => h.elim) sb.in1.room sb.in1.fr I (x := .ref a) (y := .ref b) rfl rfl h) (fun r s' ⟨c, e, H', I', q⟩ => ⟨c, e, .bl (!c), H', I', rfl, q⟩) fun _ _ q => q
theorem oIsi {X : Cx} (K : PySem.W.Frag) (h : X.K = K := by rfl) : CallR X (.builtin "isinstance") (rIsi K) := h ▸ call_isi

/-! ### making an object of a class without an own __init__ -/
structure Mk0 (K : PySem.W.Frag) (C : Addr) : Prop where
  makes : PySem.W.makesIn K C = true
  init : PySem.W.findIn K (.ref C) "__init__" = some (Option.some (Value.builtin "object.__init__"))
  kp : PySem.W.keepIn K (.ref C) = true
  mro : PySem.W.mroIn K C (.type "object") = some true
def tMk0 (C : Addr) : TE := fun _ H Q => ∀ x dx, H x = none → H dx = none → dx ≠ x → Q (.ref x) (upd (upd H dx (.own x)) x (.ins C dx []))
theorem run_mk0 {X : Cx} {C : Addr} {pins : List (Addr × Obj)} {σ : L2.St} {H : Hp} {s : Shared} {Q : VK} (M : Mk0 X.K C) (I : L2.Inv X pins σ H s) (h : tMk0 C σ H Q) :
    wpAny (model X.prog X.w) X.A (call (.ref C) []) (EP X pins σ Q) X.xe s := by
  have I2 := Inv.made (C := C) I
  have hq := h (s.heap.objs.size + 1) s.heap.objs.size (HOk.fresh I.hok (Nat.le_succ _)) (HOk.fresh I.hok (Nat.le_refl _)) (Nat.ne_of_lt (Nat.lt_succ_self _))
  obtain ⟨mA, J, _⟩ := ins_get I2.hok upd_same
  obtain ⟨od, J, _⟩ := J.look
  refine wpAny_call (make_map0 I.kIn M.makes M.init (fun self => PySem.W.Looks.of_pure (PySem.W.oi_bind self)) ?_)
  refine codeAny_call_builtin PySem.W.oi_plain PySem.W.entry_oi (PySem.W.check_slot PySem.W.oi_kind PySem.W.oi_split (PySem.W.Looks.andThen J.type (PySem.W.looks_mroIn I2.kIn M.mro)) (PySem.W.oi_args _) ?_)
  rw [PySem.W.oi_run]
  exact wpAny_pure ⟨rfl, .ref _, _, I2, rfl, hq⟩
theorem pe_mk0 {X : Cx} {C : Addr} {x : Str} {p pos : Pos} (M : Mk0 X.K C) (hg : Gl X x) (hm : X.mg x = some (.ref C)) (hdb : NotDbg x := by decide) : PE X (.Call (.Name x p) [] [] pos) (tMk0 C) :=
  ⟨fun pins s σ H Q I h => wpAny_Call_Name_kw (ld_glob I hg hm (PySem.W.callWith_K0 I.kIn M.kp (run_mk0 M I h)) hdb)⟩
/-! ### a comprehension of two clauses, without tests: the second one's things, one after another -/
def Lc2W (J : It) (g : TG) (wi1 : TI) (g1 : TG) (te : TE) (vs vs1 : List Nat) (σ : L2.St) (H1 : Hp) (Q : VK) : Prop :=
  ∀ D, H1 D = none → ∃ W : Nat → Nat → Hp → Prop, (∃ m, W 0 m (upd H1 D (.lst []))) ∧ ∀ i m H, W i m H → (J.stop i H ∧ Q (.ref D) H) ∨ (J.go i H ∧ ∃ Nx : Hp → Prop, (∀ H', Nx H' → ∃ m', m' < m ∧ W (i + 1) m' H') ∧
    ∀ x H', J.yld i H x H' → g x (wipe σ vs) H' fun σ2 H2 => wipe σ2 vs = wipe σ vs ∧ tYes σ2 H2 fun b H3 => if b = true then wi1 σ2 H3 fun J1 H4 => ∃ W1 : Nat → Nat → Hp → Prop, (∃ m, W1 0 m H4) ∧ ∀ j k H, W1 j k H → (J1.stop j H ∧ Nx H) ∨ (J1.go j H ∧ ∃ Nx1 : Hp → Prop, (∀ H', Nx1 H' → ∃ k', k' < k ∧ W1 (j + 1) k' H') ∧
      ∀ x H', J1.yld j H x H' → g1 x (wipe σ2 vs1) H' fun σ3 H5 => wipe σ3 vs1 = wipe σ2 vs1 ∧ tYes σ3 H5 fun b H6 => if b = true then te σ3 H6 fun y H7 => ∃ acc, H7 D = some (.lst acc) ∧ acc.length < sizeLine ∧ Nx1 (upd H7 D (.lst (acc ++ [y]))) else Nx1 H6) else Nx H3)
theorem s_lc2 {wi : TI} {g : TG} {wi1 : TI} {g1 : TG} {te : TE} {vs vs1 : List Nat} {σ : L2.St} {H : Hp} {Q : VK} (k : wi σ H fun J H1 => Lc2W J g wi1 g1 te vs vs1 σ H1 Q) : tLc2 wi g tYes wi1 g1 tYes te vs vs1 σ H Q := k
theorem flat_succ {α : Type} (F : Nat → List α) (i : Nat) : (List.range (i + 1)).flatMap F = (List.range i).flatMap F ++ F i := by
  rw [List.range_succ, List.flatMap_append]; simp
theorem flat_le {α : Type} (F : Nat → List α) {i n : Nat} (h : i ≤ n) : ((List.range i).flatMap F).length ≤ ((List.range n).flatMap F).length := by
  induction h with
  | refl => exact Nat.le_refl _
  | step _ ih => rw [flat_succ, List.length_append]; omega
theorem lc2_flat {J : It} {g : TG} {wi1 : TI} {g1 : TG} {te : TE} {vs vs1 : List Nat} {σ : L2.St} {H1 : Hp} {Q : VK} {n : Nat} {S : Nat → V → Hp → Prop} (T : Still J H1 n S) (F : Nat → List V) (hn : ((List.range n).flatMap F).length ≤ 100000)
    (hi : ∀ x σ2 H' (Q' : VK), wipe σ2 vs = wipe σ vs → Q' x H' → g1 x (wipe σ2 vs1) H' fun σ3 H5 => wipe σ3 vs1 = wipe σ2 vs1 ∧ te σ3 H5 Q')
    (hs : ∀ D i x H', H1 D = none → (∃ ys, H' D = some (.lst ys)) → i < n → S i x H' → Same H1 H' → ∀ R : L2.St → It → Hp → Prop, (∀ σ2 J1 H4 H5 S1, wipe σ2 vs = wipe σ vs → Same H' H4 → H5 D = none → Same H5 H4 → Still J1 H5 (F i).length S1 → (∀ j x H, S1 j x H → (F i)[j]? = some x) → R σ2 J1 H4) → g x (wipe σ vs) H' fun σ2 H2 => wipe σ2 vs = wipe σ vs ∧ wi1 σ2 H2 (R σ2))
    (k : ∀ D H', H1 D = none → Same H1 H' → H' D = some (.lst ((List.range n).flatMap F)) → Q (.ref D) H')
    (hg : ∀ x σ1 H' (P P' : L2.St → Hp → Prop), (∀ s h, P s h → P' s h) → g x σ1 H' P → g x σ1 H' P')
    (hg1 : ∀ x σ1 H' (P P' : L2.St → Hp → Prop), (∀ s h, P s h → P' s h) → g1 x σ1 H' P → g1 x σ1 H' P') : Lc2W J g wi1 g1 te vs vs1 σ H1 Q := by
  intro D hD
  refine ⟨fun i m H => m = n - i ∧ i ≤ n ∧ Same H1 H ∧ H D = some (.lst ((List.range i).flatMap F)), ⟨n, rfl, Nat.zero_le _, same_new hD, upd_same⟩, ?_⟩
  rintro i m H ⟨rfl, hle, s, hy⟩
  by_cases hlt : i < n
  · refine .inr ⟨T.go i H s hlt, fun H' => i + 1 ≤ n ∧ Same H1 H' ∧ H' D = some (.lst ((List.range (i + 1)).flatMap F)), fun H' p => ⟨n - (i + 1), by omega, rfl, p⟩, fun x H' yl => ?_⟩
    obtain ⟨sx, hS⟩ := T.yl i x H H' s hlt yl
    have hy' := sx _ _ hy
    refine hg _ _ _ _ _ (fun s2 h2 z => And.intro z.1 (tyes_to z.2)) (hs D i x H' hD ⟨_, hy'⟩ hlt hS (s.trans sx) _ fun σ2 J1 H4 H5 S1 ew s4 h5 s5 T1 hF => ?_)
    refine ⟨fun j k H => k = (F i).length - j ∧ j ≤ (F i).length ∧ Same H5 H ∧ Same H1 H ∧ H D = some (.lst ((List.range i).flatMap F ++ (F i).take j)), ⟨_, rfl, Nat.zero_le _, s5, (s.trans sx).trans s4, by rw [List.take_zero, List.append_nil]; exact s4 _ _ hy'⟩, ?_⟩
    rintro j k H6 ⟨rfl, hj, s6, s16, h6⟩
    by_cases hlt1 : j < (F i).length
    · refine .inr ⟨T1.go j H6 s6 hlt1, fun H' => j + 1 ≤ (F i).length ∧ Same H5 H' ∧ Same H1 H' ∧ H' D = some (.lst ((List.range i).flatMap F ++ (F i).take (j + 1))), fun H' p => ⟨(F i).length - (j + 1), by omega, rfl, p⟩, fun y H7 yl1 => ?_⟩
      obtain ⟨sy, hS1⟩ := T1.yl j y H6 H7 s6 hlt1 yl1
      have ey := hF j y H7 hS1
      have q := sy _ _ h6
      have bound : ((List.range i).flatMap F ++ (F i).take j).length < sizeLine := by
        have := flat_le F hlt
        rw [flat_succ, List.length_append] at this
        rw [List.length_append, List.length_take]
        exact line_lt (by omega)
      have fin : j + 1 ≤ (F i).length ∧ Same H5 (upd H7 D (.lst (((List.range i).flatMap F ++ (F i).take j) ++ [y]))) ∧ Same H1 (upd H7 D (.lst (((List.range i).flatMap F ++ (F i).take j) ++ [y]))) ∧ upd H7 D (.lst (((List.range i).flatMap F ++ (F i).take j) ++ [y])) D = some (.lst ((List.range i).flatMap F ++ (F i).take (j + 1))) :=
        ⟨hlt1, same_mut (s6.trans sy) h5, same_mut (s16.trans sy) hD, by rw [upd_same, List.take_add_one, ey, List.append_assoc]; rfl⟩
      exact hg1 _ _ _ _ _ (fun s3 h3 z => And.intro z.1 (tyes_to z.2)) (hi y σ2 H7 _ ew ⟨_, q, bound, fin⟩)
    · have ej : j = (F i).length := by omega
      subst ej
      rw [List.take_length] at h6
      exact .inl ⟨T1.st H6 s6, hlt, s16, by rw [flat_succ]; exact h6⟩
  · have ei : i = n := by omega
    subst ei
    exact .inl ⟨T.st H s, k D H hD s hy⟩
theorem s_mk0 {C : Addr} {σ : L2.St} {H : Hp} {Q : VK} (k : ∀ x dx, H x = none → H dx = none → dx ≠ x → Q (.ref x) (upd (upd H dx (.own x)) x (.ins C dx []))) : tMk0 C σ H Q := k
/-! ### tuples of the very same things -/
def DSame : Eqv := fun x y _ => ∃ a, x = .ref a ∧ y = .ref a
theorem mon_same : Mon DSame := fun _ _ _ _ _ h => h
theorem eqG_same {X : Cx} : EqG X 0 DSame := by
  intro A pins s σ H x y u v sb I rx ry d
  obtain ⟨a, rfl, rfl⟩ := d
  cases rx
  cases ry
  exact SeqAt.EqAt.same (.ref a) X.prog X.w X.xe _ ⟨rfl, H, I, Ext.rfl'⟩
theorem oEqId {X : Cx} {j : Nat} (K : PySem.W.Frag) (hr : Room j X.A) (hj : 1 ≤ j) (h : X.K = K := by rfl) : OpR X (compareOp .Eq) (rEqG (DTup K DSame)) := h ▸ op_eqG (rcG_tup mon_same eqG_same) (hr.mono hj)
theorem s_eqId {K : PySem.W.Frag} {H : Hp} {Q : VK} {a b : Addr} {as : List Addr} (ha : SqT K H a (as.map V.ref)) (hb : SqT K H b (as.map V.ref)) (k : ∀ H', Same H H' → Q (.bl true) H') : rEqG (DTup K DSame) (.ref a) (.ref b) H Q := by
  refine ⟨⟨a, b, _, _, rfl, rfl, ha, hb, rfl, fun i x y e1 e2 => ?_⟩, fun H' e => k H' e⟩
  rw [e1] at e2; cases e2
  rw [List.getElem?_map] at e1
  cases q : as[i]? with
  | none => rw [q] at e1; cases e1
  | some z => rw [q] at e1; cases e1; exact ⟨z, rfl, rfl⟩
/-! ### a comprehension over a range whose things may change what stands -/
theorem lc_rng {lo : Int} {g : TG} {te : TE} {vs : List Nat} {σ : L2.St} {H1 : Hp} {Q : VK} {n : Nat} (I : Addr → Nat → List V → Hp → Prop) (hn : n ≤ 100000)
    (h0 : ∀ D, H1 D = none → I D 0 [] (upd H1 D (.lst [])))
    (hs : ∀ D i ys H', H1 D = none → i < n → H' D = some (.lst ys) → ys.length = i → I D i ys H' → ∀ Q' : VK, (∀ y H'', H'' D = some (.lst ys) → I D (i + 1) (ys ++ [y]) (upd H'' D (.lst (ys ++ [y]))) → Q' y H'') → g (.int (lo + i)) (wipe σ vs) H' fun σ2 H2 => wipe σ2 vs = wipe σ vs ∧ te σ2 H2 Q')
    (k : ∀ D ys H', H1 D = none → H' D = some (.lst ys) → ys.length = n → I D n ys H' → Q (.ref D) H')
    (hg : ∀ x σ1 H' (P P' : L2.St → Hp → Prop), (∀ s h, P s h → P' s h) → g x σ1 H' P → g x σ1 H' P') : LcW (Itr lo n) g te vs σ H1 Q := by
  intro D hD
  refine ⟨fun i m H => m = n - i ∧ i ≤ n ∧ ∃ ys, H D = some (.lst ys) ∧ ys.length = i ∧ I D i ys H, ⟨n, rfl, Nat.zero_le _, [], upd_same, rfl, h0 D hD⟩, ?_⟩
  rintro i m H ⟨rfl, hi, ys, hy, hl, hr⟩
  by_cases hlt : i < n
  · refine .inr ⟨hlt, fun H' => i + 1 ≤ n ∧ ∃ ys, H' D = some (.lst ys) ∧ ys.length = i + 1 ∧ I D (i + 1) ys H', fun H' p => ⟨n - (i + 1), by omega, rfl, p⟩, fun x H' yl => ?_⟩
    obtain ⟨e, ex⟩ := yl
    subst e ex
    refine hg _ _ _ _ _ (fun s2 h2 z => And.intro z.1 (tyes_to z.2)) (hs D i ys _ hD hlt hy hl hr _ fun y H'' e hy' => ?_)
    exact ⟨ys, e, Nat.lt_of_lt_of_le (by omega : ys.length < 100001) (by rw [sizeLine_eq]; decide), hlt, ys ++ [y], upd_same, by rw [List.length_append, hl]; rfl, hy'⟩
  · have ei : i = n := by omega
    subst ei
    exact .inl ⟨Nat.le_refl _, k D ys H hD hy hl hr⟩

abbrev Tbl := List (Str × List Str)
def strsB : List Value → List Str → Bool
  | [], [] => true
  | .str x _ :: vs, w :: ws => decide (x = w) && strsB vs ws
  | _, _ => false
def tabB (K : PySem.W.Frag) (d : Addr) (tbl : Tbl) : Bool := tbl.all fun q => match PySem.W.nsIn K d q.1 with
  | some (some (.ref p)) => (match K.lookup p with
    | some ⟨.type c, _, .seq its _, _⟩ => decide (c = "tuple") && decide (its.size ≤ 1000) && strsB its.toList q.2
    | _ => false)
  | _ => false

section
/-! ### the text by places -/
def top (i : Nat) : Stmt := PySem.Challenge.pw_manyboard_k82_questions_as_rows.main.body.getD i (.Pass ⟨0, 0, 0, 0⟩)
abbrev s_BadCount_init : Stmt := inClass (top 2) 0
abbrev s_NoName_init : Stmt := inClass (top 3) 0
abbrev s_Twice_init : Stmt := inClass (top 4) 0
abbrev s_BadRow_init : Stmt := inClass (top 5) 0
abbrev s_is_name : Stmt := top 10
abbrev s_need_names : Stmt := top 11
abbrev s_need_once : Stmt := top 12
abbrev s_need_count : Stmt := top 13
abbrev s_Question_init : Stmt := inClass (top 16) 0
abbrev s_Question_eq : Stmt := inClass (top 16) 1
abbrev s_question_row : Stmt := top 20
abbrev s_read_question : Stmt := top 21
abbrev s_groups_of : Stmt := top 22
abbrev s_move_row : Stmt := top 23
abbrev s_read_move : Stmt := top 24
abbrev s_read_number : Stmt := top 25
abbrev s_l_cell_at : Stmt := top 27
abbrev s_l_state : Stmt := top 28
abbrev s_l_digit : Stmt := top 29
abbrev s_l_name : Stmt := top 30
abbrev s_l_names : Stmt := top 31
abbrev s_l_words_of : Stmt := top 32
abbrev s_l_figure : Stmt := top 33
abbrev s_law : Stmt := top 34
theorem sc_BadCount_init : FnScope ["self", "what", "count"] ["self", "what", "count"] (defScope s_BadCount_init) := ⟨rfl, rfl, rfl, by decide +kernel, rfl, by decide +kernel, by decide +kernel⟩
theorem sc_NoName_init : FnScope ["self", "name"] ["self", "name"] (defScope s_NoName_init) := ⟨rfl, rfl, rfl, by decide +kernel, rfl, by decide +kernel, by decide +kernel⟩
theorem sc_Twice_init : FnScope ["self", "name"] ["self", "name"] (defScope s_Twice_init) := ⟨rfl, rfl, rfl, by decide +kernel, rfl, by decide +kernel, by decide +kernel⟩
theorem sc_BadRow_init : FnScope ["self", "row"] ["self", "row"] (defScope s_BadRow_init) := ⟨rfl, rfl, rfl, by decide +kernel, rfl, by decide +kernel, by decide +kernel⟩
theorem sc_is_name : FnScope ["text", "sign"] ["text"] (defScope s_is_name) := ⟨rfl, rfl, rfl, by decide +kernel, rfl, by decide +kernel, by decide +kernel⟩
theorem sc_need_names : FnScope ["texts", "text"] ["texts"] (defScope s_need_names) := ⟨rfl, rfl, rfl, by decide +kernel, rfl, by decide +kernel, by decide +kernel⟩
theorem sc_need_once : FnScope ["names", "place", "name"] ["names"] (defScope s_need_once) := ⟨rfl, rfl, rfl, by decide +kernel, rfl, by decide +kernel, by decide +kernel⟩
theorem sc_need_count : FnScope ["what", "count", "low", "high"] ["what", "count", "low", "high"] (defScope s_need_count) := ⟨rfl, rfl, rfl, by decide +kernel, rfl, by decide +kernel, by decide +kernel⟩
theorem sc_Question_init : FnScope ["self", "lead", "follows", "holds", "asked", "told", "pair", "name", "cell", "_", "value"] ["self", "lead", "follows", "holds"] (defScope s_Question_init) := ⟨rfl, rfl, rfl, by decide +kernel, rfl, by decide +kernel, by decide +kernel⟩
theorem sc_Question_eq : FnScope ["self", "other"] ["self", "other"] (defScope s_Question_eq) := ⟨rfl, rfl, rfl, by decide +kernel, rfl, by decide +kernel, by decide +kernel⟩
theorem sc_question_row : FnScope ["question", "parts", "name", "cell", "value"] ["question"] (defScope s_question_row) := ⟨rfl, rfl, rfl, by decide +kernel, rfl, by decide +kernel, by decide +kernel⟩
theorem sc_read_question : FnScope ["text", "parts", "leads", "at", "follows", "holds", "lead", "group"] ["text"] (defScope s_read_question) := ⟨rfl, rfl, rfl, by decide +kernel, rfl, by decide +kernel, by decide +kernel⟩
theorem sc_groups_of : FnScope ["word", "many", "parts", "at", "found", "group"] ["word", "many", "parts", "at"] (defScope s_groups_of) := ⟨rfl, rfl, rfl, by decide +kernel, rfl, by decide +kernel, by decide +kernel⟩
theorem sc_move_row : FnScope ["move", "hand", "step"] ["move"] (defScope s_move_row) := ⟨rfl, rfl, rfl, by decide +kernel, rfl, by decide +kernel, by decide +kernel⟩
theorem sc_read_move : FnScope ["text", "parts"] ["text"] (defScope s_read_move) := ⟨rfl, rfl, rfl, by decide +kernel, rfl, by decide +kernel, by decide +kernel⟩
theorem sc_read_number : FnScope ["part", "sign"] ["part"] (defScope s_read_number) := ⟨rfl, rfl, rfl, by decide +kernel, rfl, by decide +kernel, by decide +kernel⟩
theorem sc_l_cell_at : FnScope ["_law_script", "_law_k"] ["_law_script", "_law_k"] (defScope s_l_cell_at) := ⟨rfl, rfl, rfl, by decide +kernel, rfl, by decide +kernel, by decide +kernel⟩
theorem sc_l_state : FnScope ["_law_cell"] ["_law_cell"] (defScope s_l_state) := ⟨rfl, rfl, rfl, by decide +kernel, rfl, by decide +kernel, by decide +kernel⟩
theorem sc_l_digit : FnScope ["_law_state_here", "_law_base", "_law_found", "_law_more"] ["_law_state_here", "_law_base"] (defScope s_l_digit) := ⟨rfl, rfl, rfl, by decide +kernel, rfl, by decide +kernel, by decide +kernel⟩
theorem sc_l_name : FnScope ["_law_s", "_law_taken", "_law_some", "_law_kind", "_law_stem", "_law_k", "_law_found", "_law_n"] ["_law_s", "_law_taken"] (defScope s_l_name) := ⟨rfl, rfl, rfl, by decide +kernel, rfl, by decide +kernel, by decide +kernel⟩
theorem sc_l_names : FnScope ["_law_s", "_law_many", "_law_found", "_law_k"] ["_law_s", "_law_many"] (defScope s_l_names) := ⟨rfl, rfl, rfl, by decide +kernel, rfl, by decide +kernel, by decide +kernel⟩
theorem sc_l_words_of : FnScope ["_law_lead", "_law_follows", "_law_holds", "_law_parts", "_law_name_here", "_law_cell", "_law_value"] ["_law_lead", "_law_follows", "_law_holds"] (defScope s_l_words_of) := ⟨rfl, rfl, rfl, by decide +kernel, rfl, by decide +kernel, by decide +kernel⟩
theorem sc_l_figure : FnScope ["_law_s"] ["_law_s"] (defScope s_l_figure) := ⟨rfl, rfl, rfl, by decide +kernel, rfl, by decide +kernel, by decide +kernel⟩
theorem sc_law : FnScope ["_law_script", "_law_k", "_law_s", "_law_some", "_law_lead", "_law_turn", "_law_follows", "_law_cells", "_law_holds", "_law_handed", "_law_question", "_law_row", "_law_found", "_law_hand", "_law_step", "_law_cell"] ["_law_script"] (defScope s_law) := ⟨rfl, rfl, rfl, by decide +kernel, rfl, by decide +kernel, by decide +kernel⟩
def dd_BadCount_init : He.DefD := ⟨("BadCount", some "__init__"), "__init__", "BadCount.__init__", defArgs s_BadCount_init, defBody s_BadCount_init, defScope s_BadCount_init, [], []⟩
def dd_NoName_init : He.DefD := ⟨("NoName", some "__init__"), "__init__", "NoName.__init__", defArgs s_NoName_init, defBody s_NoName_init, defScope s_NoName_init, [], []⟩
def dd_Twice_init : He.DefD := ⟨("Twice", some "__init__"), "__init__", "Twice.__init__", defArgs s_Twice_init, defBody s_Twice_init, defScope s_Twice_init, [], []⟩
def dd_BadRow_init : He.DefD := ⟨("BadRow", some "__init__"), "__init__", "BadRow.__init__", defArgs s_BadRow_init, defBody s_BadRow_init, defScope s_BadRow_init, [], []⟩
def dd_is_name : He.DefD := ⟨("is_name", none), "is_name", "is_name", defArgs s_is_name, defBody s_is_name, defScope s_is_name, [], []⟩
def dd_need_names : He.DefD := ⟨("need_names", none), "need_names", "need_names", defArgs s_need_names, defBody s_need_names, defScope s_need_names, [], []⟩
def dd_need_once : He.DefD := ⟨("need_once", none), "need_once", "need_once", defArgs s_need_once, defBody s_need_once, defScope s_need_once, [], []⟩
def dd_need_count : He.DefD := ⟨("need_count", none), "need_count", "need_count", defArgs s_need_count, defBody s_need_count, defScope s_need_count, [], []⟩
def dd_Question_init : He.DefD := ⟨("Question", some "__init__"), "__init__", "Question.__init__", defArgs s_Question_init, defBody s_Question_init, defScope s_Question_init, [.non, .non, .non], []⟩
def dd_Question_eq : He.DefD := ⟨("Question", some "__eq__"), "__eq__", "Question.__eq__", defArgs s_Question_eq, defBody s_Question_eq, defScope s_Question_eq, [], []⟩
def dd_question_row : He.DefD := ⟨("question_row", none), "question_row", "question_row", defArgs s_question_row, defBody s_question_row, defScope s_question_row, [], []⟩
def dd_read_question : He.DefD := ⟨("read_question", none), "read_question", "read_question", defArgs s_read_question, defBody s_read_question, defScope s_read_question, [], []⟩
def dd_groups_of : He.DefD := ⟨("groups_of", none), "groups_of", "groups_of", defArgs s_groups_of, defBody s_groups_of, defScope s_groups_of, [], []⟩
def dd_move_row : He.DefD := ⟨("move_row", none), "move_row", "move_row", defArgs s_move_row, defBody s_move_row, defScope s_move_row, [], []⟩
def dd_read_move : He.DefD := ⟨("read_move", none), "read_move", "read_move", defArgs s_read_move, defBody s_read_move, defScope s_read_move, [], []⟩
def dd_read_number : He.DefD := ⟨("read_number", none), "read_number", "read_number", defArgs s_read_number, defBody s_read_number, defScope s_read_number, [], []⟩
def dd_l_cell_at : He.DefD := ⟨("_law_cell_at", none), "_law_cell_at", "_law_cell_at", defArgs s_l_cell_at, defBody s_l_cell_at, defScope s_l_cell_at, [], []⟩
def dd_l_state : He.DefD := ⟨("_law_state", none), "_law_state", "_law_state", defArgs s_l_state, defBody s_l_state, defScope s_l_state, [], []⟩
def dd_l_digit : He.DefD := ⟨("_law_digit", none), "_law_digit", "_law_digit", defArgs s_l_digit, defBody s_l_digit, defScope s_l_digit, [], []⟩
def dd_l_name : He.DefD := ⟨("_law_name", none), "_law_name", "_law_name", defArgs s_l_name, defBody s_l_name, defScope s_l_name, [], []⟩
def dd_l_names : He.DefD := ⟨("_law_names", none), "_law_names", "_law_names", defArgs s_l_names, defBody s_l_names, defScope s_l_names, [], []⟩
def dd_l_words_of : He.DefD := ⟨("_law_words_of", none), "_law_words_of", "_law_words_of", defArgs s_l_words_of, defBody s_l_words_of, defScope s_l_words_of, [], []⟩
def dd_l_figure : He.DefD := ⟨("_law_figure", none), "_law_figure", "_law_figure", defArgs s_l_figure, defBody s_l_figure, defScope s_l_figure, [], []⟩
def dd_law : He.DefD := ⟨("law", none), "law", "law", defArgs s_law, defBody s_law, defScope s_law, [], []⟩
def fn : List He.DefD := [dd_BadCount_init, dd_NoName_init, dd_Twice_init, dd_BadRow_init, dd_is_name, dd_need_names, dd_need_once, dd_need_count, dd_Question_init, dd_Question_eq, dd_question_row, dd_read_question, dd_groups_of, dd_move_row, dd_read_move, dd_read_number, dd_l_cell_at, dd_l_state, dd_l_digit, dd_l_name, dd_l_names, dd_l_words_of, dd_l_figure, dd_law]
def fa : List He.Fa := [.free "len",
  .free "isinstance",
  .free "abs",
  .free "max",
  .free "min",
  .free "all",
  .free "int",
  .free "str",
  .free "tuple",
  .free "list",
  .free "range",
  .free "enumerate",
  .free "sorted",
  .free "set",
  .str "LETTERS" "abcdefghijklmnopqrstuvwxyz",
  .str "LETTERS_AND_FIGURES" "abcdefghijklmnopqrstuvwxyz0123456789",
  .int "LONGEST_NAME" 10,
  .int "MOST_FOLLOWS" 6,
  .str "FIGURES" "0123456789",
  .int "MOST_FIGURES" 9,
  .glo "BoardError",
  .glo "BadCount",
  .noat "BadCount" "what",
  .noat "BadCount" "count",
  .glo "NoName",
  .noat "NoName" "name",
  .glo "Twice",
  .noat "Twice" "name",
  .glo "BadRow",
  .noat "BadRow" "row",
  .glo "Question",
  .cls "Question",
  .noat "Question" "lead",
  .noat "Question" "follows",
  .noat "Question" "holds",
  .mkr "Question",
  .cls "Question",
  .glo "is_name",
  .glo "need_names",
  .glo "need_once",
  .glo "need_count",
  .glo "question_row",
  .glo "read_question",
  .glo "groups_of",
  .glo "move_row",
  .glo "read_move",
  .glo "read_number",
  .glo "_law_cell_at",
  .glo "_law_state",
  .glo "_law_digit",
  .glo "_law_name",
  .glo "_law_names",
  .glo "_law_words_of",
  .glo "_law_figure",
  .glo "law"]
def exL (K : PySem.W.Frag) : List Bool := [excB K (He.ga K "BoardError"),
  excB K (He.ga K "BadCount"),
  eqB (PySem.W.findIn K (.ref (He.ga K "BadCount")) "__init__") (some (some (.ref (He.fAd K ("BadCount", some "__init__"))))),
  eqB (PySem.W.typeIn K (.ref (He.fAd K ("BadCount", some "__init__")))) (some (.type "function")),
  excB K (He.ga K "NoName"),
  eqB (PySem.W.findIn K (.ref (He.ga K "NoName")) "__init__") (some (some (.ref (He.fAd K ("NoName", some "__init__"))))),
  eqB (PySem.W.typeIn K (.ref (He.fAd K ("NoName", some "__init__")))) (some (.type "function")),
  excB K (He.ga K "Twice"),
  eqB (PySem.W.findIn K (.ref (He.ga K "Twice")) "__init__") (some (some (.ref (He.fAd K ("Twice", some "__init__"))))),
  eqB (PySem.W.typeIn K (.ref (He.fAd K ("Twice", some "__init__")))) (some (.type "function")),
  excB K (He.ga K "BadRow"),
  eqB (PySem.W.findIn K (.ref (He.ga K "BadRow")) "__init__") (some (some (.ref (He.fAd K ("BadRow", some "__init__"))))),
  eqB (PySem.W.typeIn K (.ref (He.fAd K ("BadRow", some "__init__")))) (some (.type "function")),
  eqB (PySem.W.findIn K (.ref (He.ga K "Question")) "__eq__") (some (some (.ref (He.fAd K ("Question", some "__eq__"))))),
  eqB (PySem.W.isFn K (.ref (He.fAd K ("Question", some "__eq__")))) true,
  eqB (PySem.W.findIn K (.ref (He.ga K "Question")) "__ne__") (some (some (.builtin "object.__ne__"))),
  eqB (PySem.W.mroIn K (He.ga K "Question") (.type "object")) (some true),
  eqB (PySem.W.notFirst K (He.ga K "Question") (.type "str")) true,
  eqB (PySem.W.findIn K (.ref (He.ga K "Question")) "__class__") (some (some (.builtin "object.__class__"))),
  eqB (PySem.W.specialIn K (.builtin "object.__class__") "__get__") (some (some (.builtin "getset_descriptor.__get__"))),
  eqB (PySem.W.takesIn K (.builtin "object.__class__")) (some true),
  eqB (PySem.W.kitOne K (.ref (He.ga K "Question")) (.ref (He.ga K "Question"))) (some true),
  eqB (PySem.W.kitOne K (.type "str") (.ref (He.ga K "Question"))) (some false),
  eqB (PySem.W.findIn K (.ref (He.ga K "Question")) "__class__") (some (some (.builtin "object.__class__"))),
  eqB (PySem.W.specialIn K (.builtin "object.__class__") "__get__") (some (some (.builtin "getset_descriptor.__get__"))),
  eqB (PySem.W.takesIn K (.builtin "object.__class__")) (some true),
  eqB (PySem.W.mroIn K (He.ga K "Question") (.type "object")) (some true),
  eqB (PySem.W.kitOne K (.ref (He.ga K "Question")) (.ref (He.ga K "Question"))) (some true)]
def exK (K : PySem.W.Frag) : Bool := (exL K).all id
theorem exK_at {K : PySem.W.Frag} (h : exK K = true) (i : Nat) {b : Bool} (e : (exL K)[i]? = some b) : b = true := List.all_eq_true.mp h b (List.mem_of_getElem? e)
set_option maxHeartbeats 0
/-! ### the head: the top's run, its facts by names -/
abbrev RowH : PySem.W.OpenRow := PySem.W.OpenLaw.row PySem.Challenge.rw_manyboard_k82_questions_as_rows
abbrev hookH : PySem.W.Hook := He.hookX 4 fa fn [] [] exK
def obH (s : PySem.W.SharedT) : He.AlX := He.obsX 4 fa fn [] [] exK (HandSHeadRun.getT s)
theorem obH_eq (s : PySem.W.SharedT) : obH s = hookH.obs s.abs := He.obsX_eq (HandSHeadRun.getT_eq s)
def namesH0 : List Str := ["BoardError", "BadCount", "NoName", "Twice", "BadRow", "LETTERS", "LETTERS_AND_FIGURES", "LONGEST_NAME", "is_name", "need_names", "need_once", "need_count", "MOST_FOLLOWS", "Question", "FIGURES", "MOST_FIGURES", "question_row", "read_question", "groups_of", "move_row", "read_move", "read_number", "_law_cell_at", "_law_state", "_law_digit", "_law_name", "_law_names", "_law_words_of", "_law_figure"]
def namesH : List Str := namesH0
/-! the top's run looked at four times over: each look is a run of its own, so that no one of them holds too much -/
open PySem.W PySem.Calls in
theorem run1 (w : World) (os : OsState) : (HandSHeadRun.endF (HandSHeadRun.stepQ (HandSHeadRun.denQ HandSHeadRun.tabQ) RowH.prog w) 20000 RowH.prog w os).map (fun s => HandSHeadRun.looksF RowH.prog (boot_heap w.params) s.abs) = some true := by kernel_rfl
open PySem.W PySem.Calls in
theorem run2 (w : World) (os : OsState) : (HandSHeadRun.endF (HandSHeadRun.stepQ (HandSHeadRun.denQ HandSHeadRun.tabQ) RowH.prog w) 20000 RowH.prog w os).map (fun s => HandSHeadRun.seenQ (PySem.W.view RowH.prog [34]) namesH (importedModules RowH.prog.main.body) (fun s => xlAt (PySem.W.view RowH.prog [34]) [] s && recOk RowH.toRowW.records s) s.abs) = some (openGood (PySem.W.view RowH.prog [34]) namesH) := by kernel_rfl
theorem run3 (w : World) (os : OsState) : (HandSHeadRun.endF (HandSHeadRun.stepQ (HandSHeadRun.denQ HandSHeadRun.tabQ) RowH.prog w) 20000 RowH.prog w os).map (fun s => (obH s).1) = some (hookH.val w).1 := by kernel_rfl
theorem run4 (w : World) (os : OsState) : (HandSHeadRun.endF (HandSHeadRun.stepQ (HandSHeadRun.denQ HandSHeadRun.tabQ) RowH.prog w) 20000 RowH.prog w os).map (fun s => (obH s).2) = some (hookH.val w).2 := by kernel_rfl
theorem fourH {α β γ δ ε : Type} {x : Option α} {f : α → β} {g : α → γ} {h : α → δ × ε} {a : β} {b : γ} {c : δ × ε} (e1 : x.map f = some a) (e2 : x.map g = some b) (e3 : x.map (fun s => (h s).1) = some c.1) (e4 : x.map (fun s => (h s).2) = some c.2) : x.map (fun s => (f s, g s, h s)) = some (a, b, c) := by
  cases x with
  | none => cases e1
  | some s =>
    simp only [Option.map_some, Option.some.injEq] at *
    rw [e1, e2, show h s = c from Prod.ext e3 e4]
theorem runH (w : World) : HandSHeadRun.RunEq RowH (PySem.W.view RowH.prog [34]) hookH obH 20000 namesH w := fun os => fourH (run1 w os) (run2 w os) (run3 w os) (run4 w os)
end

/-- plain data -/
inductive D where
  | non | bl (b : Bool) | int (i : Int) | str (s : Str)
  | tup (xs : List D) | lst (xs : List D)
  | dct (ks : List Key) (xs : List D) | dtt (ks : List (List Key)) (xs : List D)
  | obj (c : Nat) (xs : List D)
/-- the written part, the program's classes with their fields in order, its errors likewise -/
structure Kt where
  K : PySem.W.Frag
  ct : List (Str × List Str)
  et : List (Str × List Str)
/-- what a slot holds: nothing that is known, data, or a thing of one's own: a list, a dict, an object; a caught error -/
inductive S where
  | un | d (x : D) | L (xs : List D) | M (ks : List Key) (xs : List D) | T (ks : List (List Key)) (xs : List D)
  | O (c : Nat) (xs : List D) | X (c : Nat) (xs : List D)
abbrev En := List S
def S.own : S → Bool
  | .L _ => true | .M _ _ => true | .T _ _ => true | .O _ _ => true | _ => false
def S.dat : S → Option D
  | .un => none | .d x => some x | .L xs => some (.lst xs) | .M ks xs => some (.dct ks xs) | .T ks xs => some (.dtt ks xs) | .O c xs => some (.obj c xs) | .X _ _ => none
section
variable (K : Kt) (F : Hp)
mutual
/-- the data x stands at the value v, all of it frozen -/
def DA : D → V → Prop
  | .non, v => v = .non
  | .bl b, v => v = .bl b
  | .int i, v => v = .int i
  | .str s, v => v = .str s
  | .tup xs, v => ∃ a vs, v = .ref a ∧ SqT K.K F a vs ∧ DAs xs vs
  | .lst xs, v => ∃ a vs, v = .ref a ∧ SqL K.K F a vs ∧ DAs xs vs
  | .dct ks xs, v => ∃ a vs, v = .ref a ∧ F a = some (.dK (ks.zip vs)) ∧ ks.length = xs.length ∧ DAs xs vs
  | .dtt ks xs, v => ∃ a vs, v = .ref a ∧ F a = some (.dT (ks.zip vs)) ∧ ks.length = xs.length ∧ DAs xs vs
  | .obj c xs, v => ∃ nm fs a dx vs, K.ct[c]? = some (nm, fs) ∧ v = .ref a ∧ F a = some (.ins (He.ga K.K nm) dx (fs.zip vs)) ∧ xs.length ≤ fs.length ∧ DAs xs vs
def DAs : List D → List V → Prop
  | [], vs => vs = []
  | x :: xs, vs => ∃ v r, vs = v :: r ∧ DA x v ∧ DAs xs r
end
end
section
variable {K : Kt} {F F' H H' : Hp}
mutual
theorem DA.mono (s : Same F F') : ∀ (x : D) (v : V), DA K F x v → DA K F' x v
  | .non, _, h => by unfold DA at h ⊢; exact h
  | .bl _, _, h => by unfold DA at h ⊢; exact h
  | .int _, _, h => by unfold DA at h ⊢; exact h
  | .str _, _, h => by unfold DA at h ⊢; exact h
  | .tup xs, _, h => by unfold DA at h ⊢; obtain ⟨a, vs, e, h1, h2⟩ := h; exact ⟨a, vs, e, same_t s h1, DAs.mono s xs vs h2⟩
  | .lst xs, _, h => by unfold DA at h ⊢; obtain ⟨a, vs, e, h1, h2⟩ := h; exact ⟨a, vs, e, s.seq h1, DAs.mono s xs vs h2⟩
  | .dct ks xs, _, h => by unfold DA at h ⊢; obtain ⟨a, vs, e, h1, h0, h2⟩ := h; exact ⟨a, vs, e, s _ _ h1, h0, DAs.mono s xs vs h2⟩
  | .dtt ks xs, _, h => by unfold DA at h ⊢; obtain ⟨a, vs, e, h1, h0, h2⟩ := h; exact ⟨a, vs, e, s _ _ h1, h0, DAs.mono s xs vs h2⟩
  | .obj c xs, _, h => by unfold DA at h ⊢; obtain ⟨nm, fs, a, dx, vs, hc, e, h1, h0, h2⟩ := h; exact ⟨nm, fs, a, dx, vs, hc, e, s _ _ h1, h0, DAs.mono s xs vs h2⟩
theorem DAs.mono (s : Same F F') : ∀ (xs : List D) (vs : List V), DAs K F xs vs → DAs K F' xs vs
  | [], _, h => by unfold DAs at h ⊢; exact h
  | x :: xs, _, h => by unfold DAs at h ⊢; obtain ⟨v, r, e, h1, h2⟩ := h; exact ⟨v, r, e, DA.mono s x v h1, DAs.mono s xs r h2⟩
end
theorem DAs.nil : DAs K F [] [] := by unfold DAs; rfl
theorem DAs.cons {x : D} {xs : List D} {v : V} {vs : List V} (h : DA K F x v) (t : DAs K F xs vs) : DAs K F (x :: xs) (v :: vs) := by unfold DAs; exact ⟨v, vs, rfl, h, t⟩
theorem DAs.nil' {vs : List V} (h : DAs K F [] vs) : vs = [] := by unfold DAs at h; exact h
theorem DAs.cons' {x : D} {xs : List D} {vs : List V} (h : DAs K F (x :: xs) vs) : ∃ v r, vs = v :: r ∧ DA K F x v ∧ DAs K F xs r := by unfold DAs at h; exact h
theorem DAs.length : ∀ {xs : List D} {vs : List V}, DAs K F xs vs → vs.length = xs.length
  | [], _, h => by rw [h.nil']; rfl
  | _ :: _, _, h => by obtain ⟨v, r, e, _, t⟩ := h.cons'; rw [e, List.length_cons, t.length, List.length_cons]
theorem DAs.get : ∀ {xs : List D} {vs : List V} {i : Nat} {v : V}, DAs K F xs vs → vs[i]? = some v → ∃ x, xs[i]? = some x ∧ DA K F x v
  | [], _, _, _, h, e => by rw [h.nil'] at e; simp at e
  | x :: xs, _, i, v, h, e => by
    obtain ⟨v0, r, rfl, h1, t⟩ := h.cons'
    cases i with
    | zero => simp at e; subst e; exact ⟨x, rfl, h1⟩
    | succ i => exact DAs.get (i := i) t (by simpa using e)
theorem DAs.get' : ∀ {xs : List D} {vs : List V} {i : Nat} {x : D}, DAs K F xs vs → xs[i]? = some x → ∃ v, vs[i]? = some v ∧ DA K F x v
  | [], _, _, _, h, e => by simp at e
  | x :: xs, _, i, y, h, e => by
    obtain ⟨v0, r, rfl, h1, t⟩ := h.cons'
    cases i with
    | zero => simp at e; subst e; exact ⟨v0, rfl, h1⟩
    | succ i => exact DAs.get' (i := i) t (by simpa using e)
theorem DAs.append : ∀ {xs ys : List D} {vs ws : List V}, DAs K F xs vs → DAs K F ys ws → DAs K F (xs ++ ys) (vs ++ ws)
  | [], _, _, _, h, t => by rw [h.nil']; exact t
  | _ :: _, _, _, _, h, t => by obtain ⟨v, r, rfl, h1, h2⟩ := h.cons'; exact .cons h1 (h2.append t)
theorem DAs.take : ∀ {xs : List D} {vs : List V} (n : Nat), DAs K F xs vs → DAs K F (xs.take n) (vs.take n)
  | _, _, 0, _ => .nil
  | [], _, _ + 1, h => by rw [h.nil']; exact .nil
  | _ :: _, _, n + 1, h => by obtain ⟨v, r, rfl, h1, h2⟩ := h.cons'; exact .cons h1 (h2.take n)
theorem DAs.drop : ∀ {xs : List D} {vs : List V} (n : Nat), DAs K F xs vs → DAs K F (xs.drop n) (vs.drop n)
  | _, _, 0, h => h
  | [], _, _ + 1, h => by rw [h.nil']; exact .nil
  | _ :: _, _, n + 1, h => by obtain ⟨v, r, rfl, h1, h2⟩ := h.cons'; exact h2.drop n
theorem DAs.set : ∀ {xs : List D} {vs : List V} (i : Nat) {x : D} {v : V}, DA K F x v → DAs K F xs vs → DAs K F (xs.set i x) (vs.set i v)
  | [], _, _, _, _, _, h => by rw [h.nil']; exact .nil
  | _ :: _, _, 0, _, _, q, h => by obtain ⟨v, r, rfl, h1, h2⟩ := h.cons'; exact .cons q h2
  | _ :: _, _, n + 1, _, _, q, h => by obtain ⟨v, r, rfl, h1, h2⟩ := h.cons'; exact .cons h1 (h2.set n q)
theorem DAs.reverse : ∀ {xs : List D} {vs : List V}, DAs K F xs vs → DAs K F xs.reverse vs.reverse
  | [], _, h => by rw [h.nil']; exact .nil
  | _ :: _, _, h => by obtain ⟨v, r, rfl, h1, h2⟩ := h.cons'; rw [List.reverse_cons, List.reverse_cons]; exact h2.reverse.append (.cons h1 .nil)
/-- seen at the heap as it is: the thing itself in H, what it holds frozen -/
def Pk (K : Kt) (F H : Hp) : D → V → Prop
  | .tup xs, v => ∃ a vs, v = .ref a ∧ SqT K.K H a vs ∧ DAs K F xs vs ∧ SqT K.K F a vs
  | .lst xs, v => ∃ a vs, v = .ref a ∧ SqL K.K H a vs ∧ DAs K F xs vs
  | .dct ks xs, v => ∃ a vs, v = .ref a ∧ H a = some (.dK (ks.zip vs)) ∧ ks.length = xs.length ∧ DAs K F xs vs
  | .dtt ks xs, v => ∃ a vs, v = .ref a ∧ H a = some (.dT (ks.zip vs)) ∧ ks.length = xs.length ∧ DAs K F xs vs
  | .obj c xs, v => ∃ nm fs a dx vs, K.ct[c]? = some (nm, fs) ∧ v = .ref a ∧ H a = some (.ins (He.ga K.K nm) dx (fs.zip vs)) ∧ xs.length ≤ fs.length ∧ DAs K F xs vs
  | x, v => DA K F x v
theorem DA.pk (s : Same F H) : ∀ {x : D} {v : V}, DA K F x v → Pk K F H x v
  | .non, _, h => h
  | .bl _, _, h => h
  | .int _, _, h => h
  | .str _, _, h => h
  | .tup _, _, h => by unfold DA at h; obtain ⟨a, vs, e, h1, h2⟩ := h; exact ⟨a, vs, e, same_t s h1, h2, h1⟩
  | .lst _, _, h => by unfold DA at h; obtain ⟨a, vs, e, h1, h2⟩ := h; exact ⟨a, vs, e, s.seq h1, h2⟩
  | .dct _ _, _, h => by unfold DA at h; obtain ⟨a, vs, e, h1, h2⟩ := h; exact ⟨a, vs, e, s _ _ h1, h2⟩
  | .dtt _ _, _, h => by unfold DA at h; obtain ⟨a, vs, e, h1, h2⟩ := h; exact ⟨a, vs, e, s _ _ h1, h2⟩
  | .obj _ _, _, h => by unfold DA at h; obtain ⟨nm, fs, a, dx, vs, hc, e, h1, h2⟩ := h; exact ⟨nm, fs, a, dx, vs, hc, e, s _ _ h1, h2⟩
theorem pk_int {i : Int} {v : V} (h : Pk K F H (.int i) v) : v = .int i := by simpa [Pk, DA] using h
theorem pk_str {i : Str} {v : V} (h : Pk K F H (.str i) v) : v = .str i := by simpa [Pk, DA] using h
theorem pk_bl {i : Bool} {v : V} (h : Pk K F H (.bl i) v) : v = .bl i := by simpa [Pk, DA] using h
theorem pk_non {v : V} (h : Pk K F H .non v) : v = .non := by simpa [Pk, DA] using h
theorem da_int {i : Int} {v : V} (h : DA K F (.int i) v) : v = .int i := by simpa [DA] using h
theorem da_str {i : Str} {v : V} (h : DA K F (.str i) v) : v = .str i := by simpa [DA] using h
theorem da_bl {i : Bool} {v : V} (h : DA K F (.bl i) v) : v = .bl i := by simpa [DA] using h
theorem da_non {v : V} (h : DA K F .non v) : v = .non := by simpa [DA] using h
theorem DA.int {i : Int} : DA K F (.int i) (.int i) := by unfold DA; rfl
theorem DA.str {i : Str} : DA K F (.str i) (.str i) := by unfold DA; rfl
theorem DA.bl {i : Bool} : DA K F (.bl i) (.bl i) := by unfold DA; rfl
theorem DA.non : DA K F .non .non := by unfold DA; rfl
theorem DA.tup {xs : List D} {a : Addr} {vs : List V} (h : SqT K.K F a vs) (t : DAs K F xs vs) : DA K F (.tup xs) (.ref a) := by unfold DA; exact ⟨a, vs, rfl, h, t⟩
theorem DA.lst {xs : List D} {a : Addr} {vs : List V} (h : SqL K.K F a vs) (t : DAs K F xs vs) : DA K F (.lst xs) (.ref a) := by unfold DA; exact ⟨a, vs, rfl, h, t⟩
theorem DA.tup' {xs : List D} {v : V} (h : DA K F (.tup xs) v) : ∃ a vs, v = .ref a ∧ SqT K.K F a vs ∧ DAs K F xs vs := by unfold DA at h; exact h
theorem DA.lst' {xs : List D} {v : V} (h : DA K F (.lst xs) v) : ∃ a vs, v = .ref a ∧ SqL K.K F a vs ∧ DAs K F xs vs := by unfold DA at h; exact h
end
/-- what is fixed within a def: the written part, the slots that are never set (those whose things it was handed to change), the error that is handled -/
structure Zt where
  K : Kt
  bp : List Nat
  xa : Option (Addr × Value × Option Addr)
/-- a slot -/
def SlA (Z : Zt) (F H : Hp) (o : Option V) : S → Prop
  | .un => True
  | .d x => ∃ v, o = some v ∧ DA Z.K F x v
  | .L xs => ∃ a vs, o = some (.ref a) ∧ F a = none ∧ H a = some (.lst vs) ∧ DAs Z.K F xs vs
  | .M ks xs => ∃ a vs, o = some (.ref a) ∧ F a = none ∧ H a = some (.dK (ks.zip vs)) ∧ ks.length = xs.length ∧ DAs Z.K F xs vs
  | .T ks xs => ∃ a vs, o = some (.ref a) ∧ F a = none ∧ H a = some (.dT (ks.zip vs)) ∧ ks.length = xs.length ∧ DAs Z.K F xs vs
  | .O c xs => ∃ nm fs a dx vs, Z.K.ct[c]? = some (nm, fs) ∧ o = some (.ref a) ∧ F a = none ∧ H a = some (.ins (He.ga Z.K.K nm) dx (fs.zip vs)) ∧ xs.length ≤ fs.length ∧ DAs Z.K F xs vs
  | .X c xs => ∃ nm fs a cls dd vs, Z.K.et[c]? = some (nm, fs) ∧ o = some (.ref a) ∧ Z.xa = some (a, cls, dd) ∧ cls = .ref (He.ga Z.K.K nm) ∧ fs.length = xs.length ∧ DAs Z.K F xs vs ∧ (fs = [] → dd = none) ∧ (fs ≠ [] → ∃ d, dd = some d ∧ F d = some (.xd (fs.zip vs).reverse))
def OwnI (σ : L2.St) (ρ : List S) (i : Nat) (a : Addr) : Prop := σ[i]? = some (some (.ref a)) ∧ ∃ s, ρ[i]? = some s ∧ s.own = true
/-- the slots hold what the environment says -/
structure EA (Z : Zt) (F H : Hp) (σ : L2.St) (ρ : En) : Prop where
  sub : Same F H
  len : ρ.length = σ.length
  sl : ∀ (i : Nat) (s : S), ρ[i]? = some s → SlA Z F H (σ[i]?.join) s
  dis : ∀ i j a, OwnI σ ρ i a → OwnI σ ρ j a → i = j
/-- an address of one's own, or a new one -/
def Ori (H : Hp) (σ : L2.St) (ρ : En) (b : Addr) : Prop := (∃ i, OwnI σ ρ i b) ∨ H b = none
/-- from one moment to a later one: what is frozen stays, what is not one's own stays -/
structure Stp (Z : Zt) (F H : Hp) (σ : L2.St) (ρ : En) (F' H' : Hp) (σ' : L2.St) (ρ' : En) : Prop where
  same : Same F F'
  new : ∀ b, F' b ≠ none → F b ≠ none ∨ Ori H σ ρ b
  keep : ∀ b o, H b = some o → (∀ i, ¬ OwnI σ ρ i b) → H' b = some o
  own : ∀ i b, OwnI σ' ρ' i b → Ori H σ ρ b
  par : ∀ i, i ∈ Z.bp → i < σ.length → σ'[i]? = σ[i]?
  len : σ.length ≤ σ'.length
section
variable {Z : Zt} {F H F1 H1 F2 H2 : Hp} {σ σ1 σ2 : L2.St} {ρ ρ1 ρ2 : En}
theorem Stp.refl : Stp Z F H σ ρ F H σ ρ := ⟨Same.refl _, fun _ h => .inl h, fun _ _ h _ => h, fun i b h => .inl ⟨i, h⟩, fun _ _ _ => rfl, Nat.le_refl _⟩
theorem Ori.back (s : Stp Z F H σ ρ F1 H1 σ1 ρ1) {b : Addr} (h : Ori H1 σ1 ρ1 b) : Ori H σ ρ b := by
  rcases h with ⟨i, h⟩ | h
  · exact s.own i b h
  · by_cases q : ∃ i, OwnI σ ρ i b
    · exact .inl q
    · refine .inr ?_
      cases e : H b with
      | none => rfl
      | some o => rw [s.keep b o e fun i z => q ⟨i, z⟩] at h; cases h
theorem Stp.trans (s : Stp Z F H σ ρ F1 H1 σ1 ρ1) (t : Stp Z F1 H1 σ1 ρ1 F2 H2 σ2 ρ2) : Stp Z F H σ ρ F2 H2 σ2 ρ2 where
  same := s.same.trans t.same
  new := fun b h => by
    rcases t.new b h with q | q
    · exact s.new b q
    · exact .inr (q.back s)
  keep := fun b o h n => t.keep b o (s.keep b o h n) fun i q => by
    rcases s.own i b q with ⟨j, z⟩ | z
    · exact n j z
    · rw [h] at z; cases z
  own := fun i b h => (t.own i b h).back s
  par := fun i hi hl => (t.par i hi (Nat.lt_of_lt_of_le hl s.len)).trans (s.par i hi hl)
  len := Nat.le_trans s.len t.len
theorem join_some {o : Option (Option V)} {v : V} (h : o.join = some v) : o = some (some v) := by
  cases o with
  | none => cases h
  | some p => cases p with
    | none => cases h
    | some w => cases h; rfl
theorem SlA.ownI {s : S} {o : Option V} (h : SlA Z F H o s) (hs : s.own = true) : ∃ a, o = some (.ref a) ∧ F a = none ∧ ∃ u, H a = some u := by
  cases s with
  | L xs => obtain ⟨a, vs, e, f, g, _⟩ := h; exact ⟨a, e, f, _, g⟩
  | M ks xs => obtain ⟨a, vs, e, f, g, _⟩ := h; exact ⟨a, e, f, _, g⟩
  | T ks xs => obtain ⟨a, vs, e, f, g, _⟩ := h; exact ⟨a, e, f, _, g⟩
  | O c xs => obtain ⟨nm, fs, a, dx, vs, hc, e, f, g, _⟩ := h; exact ⟨a, e, f, _, g⟩
  | un => cases hs
  | d x => cases hs
  | X a b => cases hs
theorem EA.own (e : EA Z F H σ ρ) {i : Nat} {s : S} (h : ρ[i]? = some s) (hs : s.own = true) : ∃ a, OwnI σ ρ i a ∧ F a = none ∧ ∃ u, H a = some u := by
  obtain ⟨a, h1, h2, h3⟩ := (e.sl i s h).ownI hs
  exact ⟨a, ⟨join_some h1, s, h, hs⟩, h2, h3⟩
theorem EA.ownF (e : EA Z F H σ ρ) {i : Nat} {a : Addr} (h : OwnI σ ρ i a) : F a = none ∧ ∃ u, H a = some u := by
  obtain ⟨h1, s, h2, h3⟩ := h
  obtain ⟨b, q1, q2, q3⟩ := (e.sl i s h2).ownI h3
  rw [h1] at q1
  cases q1
  exact ⟨q2, q3⟩
/-- a slot's facts carried on: the frozen part has grown, what it holds of its own has stayed -/
theorem SlA.mono {s : S} {o : Option V} (h : SlA Z F H o s) (m : Same F F1) (k : ∀ a u, o = some (.ref a) → s.own = true → H a = some u → F a = none → H1 a = some u ∧ F1 a = none) : SlA Z F1 H1 o s := by
  cases s with
  | un => trivial
  | d x => obtain ⟨v, e, h⟩ := h; exact ⟨v, e, h.mono m⟩
  | L xs => obtain ⟨a, vs, e, f, g, t⟩ := h; obtain ⟨k1, k2⟩ := k a _ e rfl g f; exact ⟨a, vs, e, k2, k1, t.mono m⟩
  | M ks xs => obtain ⟨a, vs, e, f, g, l, t⟩ := h; obtain ⟨k1, k2⟩ := k a _ e rfl g f; exact ⟨a, vs, e, k2, k1, l, t.mono m⟩
  | T ks xs => obtain ⟨a, vs, e, f, g, l, t⟩ := h; obtain ⟨k1, k2⟩ := k a _ e rfl g f; exact ⟨a, vs, e, k2, k1, l, t.mono m⟩
  | O c xs => obtain ⟨nm, fs, a, dx, vs, hc, e, f, g, l, t⟩ := h; obtain ⟨k1, k2⟩ := k a _ e rfl g f; exact ⟨nm, fs, a, dx, vs, hc, e, k2, k1, l, t.mono m⟩
  | X c xs => obtain ⟨nm, fs, a, cls, dd, vs, hc, e, f, y, l, t, g0, g⟩ := h; exact ⟨nm, fs, a, cls, dd, vs, hc, e, f, y, l, t.mono m, g0, fun z => let ⟨d, e1, e2⟩ := g z; ⟨d, e1, m _ _ e2⟩⟩
/-- allocation: only new things -/
structure Al (F H F1 H1 : Hp) : Prop where
  same : Same F F1
  keep : Same H H1
  sub : Same F1 H1
  new : ∀ b, F1 b ≠ none → F b ≠ none ∨ H b = none
theorem Al.refl (s : Same F H) : Al F H F H := ⟨Same.refl _, Same.refl _, s, fun _ h => .inl h⟩
theorem EA.al (e : EA Z F H σ ρ) (a : Al F H F1 H1) : EA Z F1 H1 σ ρ where
  sub := a.sub
  len := e.len
  sl := fun i s h => (e.sl i s h).mono a.same fun b u _ _ hu hf => ⟨a.keep _ _ hu, by
    cases q : F1 b with
    | none => rfl
    | some z =>
      rcases a.new b (by rw [q]; exact fun z => nomatch z) with y | y
      · exact absurd hf y
      · rw [hu] at y; cases y⟩
  dis := e.dis
theorem Al.stp (a : Al F H F1 H1) : Stp Z F H σ ρ F1 H1 σ ρ := ⟨a.same, fun b h => (a.new b h).imp id .inr, fun b o h _ => a.keep b o h, fun i b h => .inl ⟨i, h⟩, fun _ _ _ => rfl, Nat.le_refl _⟩
theorem Al.trans (a : Al F H F1 H1) (b : Al F1 H1 F2 H2) : Al F H F2 H2 := ⟨a.same.trans b.same, a.keep.trans b.keep, b.sub, fun x h => by
  rcases b.new x h with q | q
  · exact a.new x q
  · exact .inr (a.keep.free q)⟩
/-- a new frozen thing -/
theorem Al.add (s : Same F H) {p : Addr} (hp : H p = none) (o : HO) : Al F H (upd F p o) (upd H p o) where
  same := same_new (s.free hp)
  keep := same_new hp
  sub := fun b u h => by
    by_cases e : b = p
    · subst e; rw [upd_same] at h ⊢; exact h
    · rw [upd_ne e] at h ⊢; exact s _ _ h
  new := fun b h => by
    by_cases e : b = p
    · subst e; exact .inr hp
    · rw [upd_ne e] at h; exact .inl h
/-- a new thing that is not frozen -/
theorem Al.lay (s : Same F H) {p : Addr} (hp : H p = none) (o : HO) : Al F H F (upd H p o) := ⟨Same.refl _, same_new hp, s.trans (same_new hp), fun _ h => .inl h⟩
end

/-! ### what an expression comes to -/
inductive Rs (α : Type) where
  | ok (a : α) (ρ : En) | exc (c : Nat) (xs : List D) (ρ : En) | stuck
def Rs.bind {α β : Type} (r : Rs α) (k : α → En → Rs β) : Rs β := match r with
  | .ok a ρ => k a ρ
  | .exc c xs ρ => .exc c xs ρ
  | .stuck => .stuck
def Rs.opt {α β : Type} (o : Option α) (k : α → Rs β) : Rs β := match o with
  | some a => k a
  | none => .stuck
@[simp] theorem Rs.bind_ok {α β : Type} (a : α) (ρ : En) (k : α → En → Rs β) : (Rs.ok a ρ).bind k = k a ρ := rfl
@[simp] theorem Rs.bind_exc {α β : Type} (c : Nat) (xs : List D) (ρ : En) (k : α → En → Rs β) : (Rs.exc c xs ρ : Rs α).bind k = .exc c xs ρ := rfl
@[simp] theorem Rs.bind_stuck {α β : Type} (k : α → En → Rs β) : (Rs.stuck : Rs α).bind k = .stuck := rfl
@[simp] theorem Rs.opt_some {α β : Type} (a : α) (k : α → Rs β) : Rs.opt (some a) k = k a := rfl
@[simp] theorem Rs.opt_none {α β : Type} (k : α → Rs β) : Rs.opt none k = .stuck := rfl
/-- an error's class and fields -/
def XA (K : Kt) (F : Hp) (cls : Value) (dd : Option Addr) (c : Nat) (xs : List D) : Prop :=
  ∃ nm fs vs, K.et[c]? = some (nm, fs) ∧ cls = .ref (He.ga K.K nm) ∧ fs.length = xs.length ∧ DAs K F xs vs ∧ (fs = [] → dd = none) ∧ (fs ≠ [] → ∃ d, dd = some d ∧ F d = some (.xd (fs.zip vs).reverse))
def Sat {α : Type} (Z : Zt) (W : WX) (F H : Hp) (σ : L2.St) (ρ : En) (r : Rs α) (post : α → En → Hp → Hp → Prop) : Prop := match r with
  | .ok a ρ' => ∀ F' H', Stp Z F H σ ρ F' H' σ ρ' → EA Z F' H' σ ρ' → post a ρ' F' H'
  | .exc c xs ρ' => ∀ F' H' cls dd, Stp Z F H σ ρ F' H' σ ρ' → EA Z F' H' σ ρ' → XA Z.K F' cls dd c xs → W cls dd σ H'
  | .stuck => False
section
variable {α β : Type} {Z : Zt} {W : WX} {F H F1 H1 : Hp} {σ : L2.St} {ρ ρ1 : En}
theorem Sat.bind {r : Rs α} {k : α → En → Rs β} {post : β → En → Hp → Hp → Prop} (h : Sat Z W F H σ ρ (r.bind k) post) : Sat Z W F H σ ρ r fun a ρ1 F1 H1 => Sat Z W F1 H1 σ ρ1 (k a ρ1) post := by
  cases r with
  | stuck => exact h
  | exc => exact h
  | ok a ρ1 =>
    intro F1 H1 s e
    rw [Rs.bind_ok] at h
    cases q : k a ρ1 with
    | stuck => rw [q] at h; exact h
    | exc => rw [q] at h; intro F' H' cls dd s' e' x; exact h F' H' cls dd (s.trans s') e' x
    | ok b ρ2 => rw [q] at h; intro F' H' s' e'; exact h F' H' (s.trans s') e'
theorem Sat.mono {r : Rs α} {post post' : α → En → Hp → Hp → Prop} (h : Sat Z W F H σ ρ r post) (m : ∀ a ρ' F' H', Stp Z F H σ ρ F' H' σ ρ' → EA Z F' H' σ ρ' → post a ρ' F' H' → post' a ρ' F' H') : Sat Z W F H σ ρ r post' := by
  cases r with
  | stuck => exact h
  | exc => exact h
  | ok a ρ1 => exact fun F' H' s e => m a ρ1 F' H' s e (h F' H' s e)
theorem Sat.keep {r : Rs α} {post : α → En → Hp → Hp → Prop} (h : Sat Z W F H σ ρ r post) : Sat Z W F H σ ρ r fun a ρ' F' H' => Same F F' ∧ EA Z F' H' σ ρ' ∧ post a ρ' F' H' := h.mono fun a ρ' F' H' s e p => ⟨s.same, e, p⟩
theorem Sat.from {F1 H1 : Hp} {ρ1 : En} {r : Rs α} {post : α → En → Hp → Hp → Prop} (s : Stp Z F H σ ρ F1 H1 σ ρ1) (h : Sat Z W F H σ ρ r post) : Sat Z W F1 H1 σ ρ1 r post := by
  cases r with
  | stuck => exact h
  | exc => exact fun F' H' cls dd t e x => h F' H' cls dd (s.trans t) e x
  | ok a ρ2 => exact fun F' H' t e => h F' H' (s.trans t) e
theorem Sat.from_al {r : Rs α} {post : α → En → Hp → Hp → Prop} (h : Sat Z W F H σ ρ r post) (a : Al F H F1 H1) : Sat Z W F1 H1 σ ρ r post := h.from a.stp
theorem Sat.opt {o : Option α} {k : α → Rs β} {post : β → En → Hp → Hp → Prop} (h : Sat Z W F H σ ρ (Rs.opt o k) post) : ∃ a, o = some a ∧ Sat Z W F H σ ρ (k a) post := by
  cases o with
  | none => exact h.elim
  | some a => exact ⟨a, rfl, h⟩
theorem Sat.here {a : α} {post : α → En → Hp → Hp → Prop} (e : EA Z F H σ ρ) (h : Sat Z W F H σ ρ (.ok a ρ) post) : post a ρ F H := h F H Stp.refl e
end
/-- a result: data, or a new thing of one's own -/
def RA (Z : Zt) (H₀ : Hp) (σ : L2.St) (ρ₀ : En) (F' H' : Hp) (ρ' : En) (v : V) (s : S) : Prop := SlA Z F' H' (some v) s ∧ (s.own = true → ∀ p, v = .ref p → Ori H₀ σ ρ₀ p ∧ ∀ i, ¬ OwnI σ ρ' i p)
def dF (Z : Zt) (W : WX) (m : En → Rs S) : TE := fun σ H Q => ∃ F ρ, EA Z F H σ ρ ∧ Sat Z W F H σ ρ (m ρ) fun s ρ' F' H' => ∀ v, RA Z H σ ρ F' H' ρ' v s → Q v H'
def dE (Z : Zt) (W : WX) (m : En → Rs D) : TE := fun σ H Q => ∃ F ρ, EA Z F H σ ρ ∧ Sat Z W F H σ ρ (m ρ) fun x ρ' F' H' => ∀ v, DA Z.K F' x v → Q v H'
def dT (Z : Zt) (W : WX) (m : En → Rs Bool) : TT := fun σ H Q => ∃ F ρ, EA Z F H σ ρ ∧ Sat Z W F H σ ρ (m ρ) fun b ρ' F' H' => Q b H'
/-- what is held of an operand: the slot, or data -/
inductive Hd where
  | sl (i : Nat) | dt (x : D)
def Hd.res (ρ : En) : Hd → Option D
  | .sl i => match ρ[i]? with | some s => s.dat | none => none
  | .dt x => some x
def HdA (K : Kt) (F : Hp) (σ : L2.St) (v : V) : Hd → Prop
  | .sl i => σ[i]? = some (some v)
  | .dt x => DA K F x v
def HdsA (K : Kt) (F : Hp) (σ : L2.St) : List V → List Hd → Prop
  | [], [] => True
  | v :: vs, h :: hs => HdA K F σ v h ∧ HdsA K F σ vs hs
  | _, _ => False
def dO (Z : Zt) (W : WX) (m : En → Rs Hd) : TE := fun σ H Q => ∃ F ρ, EA Z F H σ ρ ∧ Sat Z W F H σ ρ (m ρ) fun h ρ' F' H' => ∀ v, HdA Z.K F' σ v h → Q v H'
def dA (Z : Zt) (W : WX) (m : En → Rs (List Hd)) : TA := fun σ H Q => ∃ F ρ, EA Z F H σ ρ ∧ Sat Z W F H σ ρ (m ρ) fun hs ρ' F' H' => ∀ vs, HdsA Z.K F' σ vs hs → Q vs H'
structure DF (X : Cx) (Z : Zt) (W : WX) (e : Expr) (m : En → Rs S) : Prop where
  pe : PE X e (dF Z W m)
structure DE (X : Cx) (Z : Zt) (W : WX) (e : Expr) (m : En → Rs D) : Prop where
  pe : PE X e (dE Z W m)
structure DT (X : Cx) (Z : Zt) (W : WX) (e : Expr) (m : En → Rs Bool) : Prop where
  pt : PT X e (dT Z W m)
structure DO (X : Cx) (Z : Zt) (W : WX) (e : Expr) (m : En → Rs Hd) : Prop where
  pe : PE X e (dO Z W m)
structure DR (X : Cx) (Z : Zt) (W : WX) (es : List Expr) (m : En → Rs (List Hd)) : Prop where
  pa : L2.PA X es (dA Z W m)
theorem pe_imp {X : Cx} {e : Expr} {t t' : TE} (h : PE X e t) (i : ∀ σ H Q, t' σ H Q → t σ H Q) : PE X e t' := ⟨fun pins s σ H Q I z => h.run pins s σ H Q I (i σ H Q z)⟩
theorem pt_imp {X : Cx} {e : Expr} {t t' : TT} (h : PT X e t) (i : ∀ σ H Q, t' σ H Q → t σ H Q) : PT X e t' := ⟨fun pins s σ H Q I z => h.run pins s σ H Q I (i σ H Q z)⟩
theorem pa_imp {X : Cx} {e : List Expr} {t t' : TA} (h : L2.PA X e t) (i : ∀ σ H Q, t' σ H Q → t σ H Q) : L2.PA X e t' := ⟨fun pos pins s σ H Q I z => h.run pos pins s σ H Q I (i σ H Q z)⟩
theorem ps_imp {X : Cx} {e : Stmt} {t t' : TS} (h : PS X e t) (i : ∀ D σ H, t' D σ H → t D σ H) : PS X e t' := ⟨fun pins s σ H D I z => h.run pins s σ H D I (i D σ H z)⟩
theorem pss_imp {X : Cx} {e : List Stmt} {t t' : TS} (h : PSs X e t) (i : ∀ D σ H, t' D σ H → t D σ H) : PSs X e t' := ⟨fun pins s σ H D I z => h.run pins s σ H D I (i D σ H z)⟩
section
variable {Z : Zt} {W : WX} {F H F1 H1 : Hp} {σ : L2.St} {ρ ρ1 : En} {K : Kt}
theorem HdA.mono {v : V} {h : Hd} (m : Same F F1) (q : HdA K F σ v h) : HdA K F1 σ v h := by
  cases h with
  | sl i => exact q
  | dt x => exact DA.mono m x v q
theorem SlA.pk {s : S} {v : V} {x : D} (sub : Same F H) (h : SlA Z F H (some v) s) (e : s.dat = some x) : Pk Z.K F H x v := by
  cases s with
  | un => cases e
  | d y => cases e; obtain ⟨w, e, h⟩ := h; cases e; exact h.pk sub
  | L xs => cases e; obtain ⟨a, vs, e, f, g, t⟩ := h; cases e; exact ⟨a, vs, rfl, SqL.of g, t⟩
  | M ks xs => cases e; obtain ⟨a, vs, e, f, g, l, t⟩ := h; cases e; exact ⟨a, vs, rfl, g, l, t⟩
  | T ks xs => cases e; obtain ⟨a, vs, e, f, g, l, t⟩ := h; cases e; exact ⟨a, vs, rfl, g, l, t⟩
  | O c xs => cases e; obtain ⟨nm, fs, a, dx, vs, hc, e, f, g, l, t⟩ := h; cases e; exact ⟨nm, fs, a, dx, vs, hc, rfl, g, l, t⟩
  | X a b => cases e
theorem HdA.pk {v : V} {h : Hd} {x : D} (e : EA Z F H σ ρ) (q : HdA Z.K F σ v h) (r : h.res ρ = some x) : Pk Z.K F H x v := by
  cases h with
  | dt y => cases r; exact DA.pk e.sub q
  | sl i =>
    simp only [Hd.res] at r
    cases z : ρ[i]? with
    | none => rw [z] at r; cases r
    | some s =>
      rw [z] at r
      have := e.sl i s z
      rw [q] at this
      exact this.pk e.sub r
/-- a thing of one's own is frozen -/
theorem freeze {s : S} {v : V} {x : D} (e : EA Z F H σ ρ) (h : SlA Z F H (some v) s) (n : s.own = true → ∀ p, v = .ref p → ∀ i, ¬ OwnI σ ρ i p) (ex : s.dat = some x) :
    ∃ F1, Same F F1 ∧ EA Z F1 H σ ρ ∧ DA Z.K F1 x v ∧ ∀ b, F1 b ≠ none → F b ≠ none ∨ (s.own = true ∧ v = .ref b) := by
  have put : ∀ (a : Addr) (o : HO), s.own = true → v = .ref a → F a = none → H a = some o → Same F (upd F a o) ∧ EA Z (upd F a o) H σ ρ ∧ ∀ b, upd F a o b ≠ none → F b ≠ none ∨ (s.own = true ∧ v = .ref b) := by
    intro a o so hv fa ha
    have sm : Same F (upd F a o) := same_new fa
    refine ⟨sm, ⟨fun b u q => ?_, e.len, fun i s' q => (e.sl i s' q).mono sm fun b u hb ho hu hf => ⟨hu, ?_⟩, e.dis⟩, fun b q => ?_⟩
    · by_cases c : b = a
      · subst c; rw [upd_same] at q; cases q; exact ha
      · rw [upd_ne c] at q; exact e.sub _ _ q
    · by_cases c : b = a
      · subst c
        exact absurd ⟨join_some hb, s', q, ho⟩ (n so b hv i)
      · rw [upd_ne c]; exact hf
    · by_cases c : b = a
      · subst c; exact .inr ⟨so, hv⟩
      · rw [upd_ne c] at q; exact .inl q
  cases s with
  | un => cases ex
  | X a b => cases ex
  | d y => cases ex; obtain ⟨w, e1, h⟩ := h; cases e1; exact ⟨F, Same.refl _, e, h, fun b q => .inl q⟩
  | L xs =>
    cases ex; obtain ⟨a, vs, e1, f, g, t⟩ := h; cases e1
    obtain ⟨p1, p2, p3⟩ := put a _ rfl rfl f g
    exact ⟨_, p1, p2, by unfold DA; exact ⟨a, vs, rfl, SqL.of upd_same, t.mono p1⟩, p3⟩
  | M ks xs =>
    cases ex; obtain ⟨a, vs, e1, f, g, l, t⟩ := h; cases e1
    obtain ⟨p1, p2, p3⟩ := put a _ rfl rfl f g
    exact ⟨_, p1, p2, by unfold DA; exact ⟨a, vs, rfl, upd_same, l, t.mono p1⟩, p3⟩
  | T ks xs =>
    cases ex; obtain ⟨a, vs, e1, f, g, l, t⟩ := h; cases e1
    obtain ⟨p1, p2, p3⟩ := put a _ rfl rfl f g
    exact ⟨_, p1, p2, by unfold DA; exact ⟨a, vs, rfl, upd_same, l, t.mono p1⟩, p3⟩
  | O c xs =>
    cases ex; obtain ⟨nm, fs, a, dx, vs, hc, e1, f, g, l, t⟩ := h; cases e1
    obtain ⟨p1, p2, p3⟩ := put a _ rfl rfl f g
    exact ⟨_, p1, p2, by unfold DA; exact ⟨nm, fs, a, dx, vs, hc, rfl, upd_same, l, t.mono p1⟩, p3⟩
def frz (m : En → Rs S) : En → Rs D := fun ρ => (m ρ).bind fun s ρ' => Rs.opt s.dat fun x => .ok x ρ'
theorem Stp.grow (st : Stp Z F H σ ρ F1 H1 σ ρ1) {F2 : Hp} (s : Same F1 F2) (n : ∀ b, F2 b ≠ none → F1 b ≠ none ∨ Ori H σ ρ b) : Stp Z F H σ ρ F2 H1 σ ρ1 :=
  ⟨st.same.trans s, fun b h => (n b h).elim (st.new b) .inr, st.keep, st.own, st.par, st.len⟩
theorem DF.frz {X : Cx} {e : Expr} {m : En → Rs S} (h : DF X Z W e m) : DE X Z W e (frz m) := ⟨pe_imp h.pe fun σ H Q ⟨F, ρ, ea, q⟩ => by
  refine ⟨F, ρ, ea, ?_⟩
  unfold My.frz at q
  cases r : m ρ with
  | stuck => rw [r] at q; exact q
  | exc => rw [r] at q; exact q
  | ok s ρ1 =>
    rw [r, Rs.bind_ok] at q
    intro F1 H1 st e1 v ra
    obtain ⟨x, ex, q⟩ := q.opt
    obtain ⟨F2, p1, p2, p3, p4⟩ := freeze e1 ra.1 (fun so p hv => (ra.2 so p hv).2) ex
    exact q F2 H1 (st.grow p1 fun b hb => (p4 b hb).imp id fun ⟨so, hv⟩ => (ra.2 so b hv).1) p2 v p3⟩
def toS (m : En → Rs D) : En → Rs S := fun ρ => (m ρ).bind fun x ρ' => .ok (.d x) ρ'
theorem DE.df {X : Cx} {e : Expr} {m : En → Rs D} (h : DE X Z W e m) : DF X Z W e (toS m) := ⟨pe_imp h.pe fun σ H Q ⟨F, ρ, ea, q⟩ => ⟨F, ρ, ea, q.bind.mono fun x ρ' F' H' st e' p v hv => p.here e' v ⟨⟨v, rfl, hv⟩, fun z => nomatch z⟩⟩⟩
end

section
variable {Z : Zt} {W : WX} {F H F1 H1 : Hp} {σ : L2.St} {ρ ρ1 : En}
theorem ownI_set {i j : Nat} {s : S} {a : Addr} (h : OwnI σ (ρ.set i s) j a) : (j = i ∧ s.own = true ∧ σ[i]? = some (some (.ref a))) ∨ (j ≠ i ∧ OwnI σ ρ j a) := by
  obtain ⟨h1, t, h2, h3⟩ := h
  by_cases e : j = i
  · subst e
    rw [List.getElem?_set] at h2
    by_cases q : j < ρ.length
    · simp [q] at h2; subst h2; exact .inl ⟨rfl, h3, h1⟩
    · simp [q] at h2
  · rw [List.getElem?_set] at h2
    simp [Ne.symm e] at h2
    exact .inr ⟨e, h1, t, h2, h3⟩
theorem EA.set (e : EA Z F H σ ρ) {i : Nat} {s : S} (h : SlA Z F H (σ[i]?.join) s) (n : s.own = true → ∀ a, σ[i]? = some (some (.ref a)) → ∀ j, j ≠ i → ¬ OwnI σ ρ j a) : EA Z F H σ (ρ.set i s) where
  sub := e.sub
  len := by rw [List.length_set]; exact e.len
  sl := fun j t q => by
    by_cases c : j = i
    · subst c
      rw [List.getElem?_set] at q
      by_cases z : j < ρ.length
      · simp [z] at q; subst q; exact h
      · simp [z] at q
    · rw [List.getElem?_set] at q
      simp [Ne.symm c] at q
      exact e.sl j t q
  dis := fun j k a h1 h2 => by
    rcases ownI_set h1 with ⟨e1, o1, a1⟩ | ⟨e1, o1⟩
    · rcases ownI_set h2 with ⟨e2, o2, a2⟩ | ⟨e2, o2⟩
      · rw [e1, e2]
      · exact absurd o2 (n o1 a a1 k e2)
    · rcases ownI_set h2 with ⟨e2, o2, a2⟩ | ⟨e2, o2⟩
      · exact absurd o1 (n o2 a a2 j e1)
      · exact e.dis j k a o1 o2
/-- what is one's own has only become less -/
theorem Stp.less (k : ∀ i a, OwnI σ ρ1 i a → OwnI σ ρ i a) : Stp Z F H σ ρ F H σ ρ1 := ⟨Same.refl _, fun _ h => .inl h, fun _ _ h _ => h, fun i b h => .inl ⟨i, k i b h⟩, fun _ _ _ => rfl, Nat.le_refl _⟩
theorem own_un {i j : Nat} {s : S} {a : Addr} (hs : s.own = false) (h : OwnI σ (ρ.set i s) j a) : OwnI σ ρ j a := by
  rcases ownI_set h with ⟨_, o, _⟩ | ⟨_, o⟩
  · rw [hs] at o; cases o
  · exact o
def rd (i : Nat) : En → Rs D := fun ρ => match ρ[i]? with
  | some (.d x) => .ok x ρ
  | some s => Rs.opt s.dat fun x => .ok x (ρ.set i (.d x))
  | none => .stuck
def mv (i : Nat) : En → Rs S := fun ρ => match ρ[i]? with
  | some (.d x) => .ok (.d x) ρ
  | some s => Rs.opt s.dat fun _ => .ok s (ρ.set i .un)
  | none => .stuck
theorem freezeAt (e : EA Z F H σ ρ) {i : Nat} {s : S} {x : D} (h : ρ[i]? = some s) (ex : s.dat = some x) : ∃ F1 v, σ[i]? = some (some v) ∧ Stp Z F H σ ρ F1 H σ (ρ.set i (.d x)) ∧ EA Z F1 H σ (ρ.set i (.d x)) ∧ DA Z.K F1 x v := by
  have hs := e.sl i s h
  have hv : ∃ v, σ[i]? = some (some v) := by
    cases s with
    | un => cases ex
    | X a b => cases ex
    | d y => obtain ⟨v, q, _⟩ := hs; exact ⟨v, join_some q⟩
    | L xs => obtain ⟨a, vs, q, _⟩ := hs; exact ⟨_, join_some q⟩
    | M ks xs => obtain ⟨a, vs, q, _⟩ := hs; exact ⟨_, join_some q⟩
    | T ks xs => obtain ⟨a, vs, q, _⟩ := hs; exact ⟨_, join_some q⟩
    | O c xs => obtain ⟨_, _, a, dx, vs, _, q, _⟩ := hs; exact ⟨_, join_some q⟩
  obtain ⟨v, hv⟩ := hv
  have e0 : EA Z F H σ (ρ.set i .un) := e.set trivial fun z => nomatch z
  rw [hv] at hs
  obtain ⟨F1, p1, p2, p3, p4⟩ := freeze e0 hs (fun so p q j z => by
    subst q
    rcases ownI_set z with ⟨_, o, _⟩ | ⟨c, o⟩
    · cases o
    · exact c (e.dis j i p o ⟨hv, s, h, so⟩)) ex
  refine ⟨F1, v, hv, ?_, ?_, p3⟩
  · refine Stp.grow (Stp.less fun j a z => own_un rfl z) p1 fun b hb => (p4 b hb).imp id fun ⟨so, q⟩ => .inl ⟨i, by rw [hv, q], s, h, so⟩
  · have := p2.set (i := i) (s := .d x) (by rw [hv]; exact ⟨v, rfl, p3⟩) (fun z => nomatch z)
    rwa [List.set_set] at this
theorem d_rd {X : Cx} {i : Nat} {e : Expr} (h : PE X e (tVar i)) : DE X Z W e (rd i) := ⟨pe_imp h fun σ H Q ⟨F, ρ, ea, q⟩ => by
  unfold rd at q
  cases r : ρ[i]? with
  | none => rw [r] at q; exact q.elim
  | some s =>
    rw [r] at q
    have fin : ∀ x, s.dat = some x → Sat Z W F H σ ρ (.ok x (ρ.set i (.d x))) (fun x ρ' F' H' => ∀ v, DA Z.K F' x v → Q v H') → tVar i σ H Q := fun x ex q => by
      obtain ⟨F1, v, hv, st, e1, d1⟩ := freezeAt ea r ex
      exact ⟨v, hv, q F1 H st e1 v d1⟩
    cases s with
    | d x =>
      obtain ⟨v, hv, d1⟩ := ea.sl i _ r
      exact ⟨v, join_some hv, q.here ea v d1⟩
    | un => exact q.elim
    | X a b => exact q.elim
    | L xs => exact fin _ rfl q
    | M ks xs => exact fin _ rfl q
    | T ks xs => exact fin _ rfl q
    | O c xs => exact fin _ rfl q⟩
theorem d_mv {X : Cx} {i : Nat} {e : Expr} (h : PE X e (tVar i)) : DF X Z W e (mv i) := ⟨pe_imp h fun σ H Q ⟨F, ρ, ea, q⟩ => by
  unfold mv at q
  cases r : ρ[i]? with
  | none => rw [r] at q; exact q.elim
  | some s =>
    rw [r] at q
    have fin : s.own = true → Sat Z W F H σ ρ (.ok s (ρ.set i .un)) (fun s ρ' F' H' => ∀ v, RA Z H σ ρ F' H' ρ' v s → Q v H') → tVar i σ H Q := fun so q => by
      obtain ⟨a, oi, hf, _⟩ := ea.own r so
      have hs := ea.sl i s r
      rw [oi.1] at hs
      refine ⟨_, oi.1, q F H (Stp.less fun j b z => own_un rfl z) (ea.set trivial fun z => nomatch z) _ ⟨hs, fun _ p hp => ?_⟩⟩
      cases hp
      refine ⟨.inl ⟨i, oi⟩, fun j z => ?_⟩
      rcases ownI_set z with ⟨_, o, _⟩ | ⟨c, o⟩
      · cases o
      · exact c (ea.dis j i _ o oi)
    cases s with
    | d x =>
      obtain ⟨v, hv, d1⟩ := ea.sl i _ r
      exact ⟨v, join_some hv, q.here ea v ⟨⟨v, rfl, d1⟩, fun z => nomatch z⟩⟩
    | un => exact q.elim
    | X a b => exact q.elim
    | L xs => exact fin rfl q
    | M ks xs => exact fin rfl q
    | T ks xs => exact fin rfl q
    | O c xs => exact fin rfl q⟩
/-! ### operands -/
def pk (i : Nat) : En → Rs Hd := fun ρ => match ρ[i]? with
  | some s => Rs.opt s.dat fun _ => .ok (.sl i) ρ
  | none => .stuck
def ex (m : En → Rs D) : En → Rs Hd := fun ρ => (m ρ).bind fun x ρ' => .ok (.dt x) ρ'
theorem d_pk {X : Cx} {i : Nat} {e : Expr} (h : PE X e (tVar i)) : DO X Z W e (pk i) := ⟨pe_imp h fun σ H Q ⟨F, ρ, ea, q⟩ => by
  unfold pk at q
  cases r : ρ[i]? with
  | none => rw [r] at q; exact q.elim
  | some s =>
    rw [r] at q
    obtain ⟨x, ex, q⟩ := q.opt
    obtain ⟨F1, v, hv, _⟩ := freezeAt ea r ex
    exact ⟨v, hv, q.here ea v hv⟩⟩
theorem d_ex {X : Cx} {e : Expr} {m : En → Rs D} (h : DE X Z W e m) : DO X Z W e (ex m) := ⟨pe_imp h.pe fun σ H Q ⟨F, ρ, ea, q⟩ => ⟨F, ρ, ea, q.bind.mono fun x ρ' F' H' st e' p v hv => p.here e' v hv⟩⟩
/-- constants -/
def kd (x : D) : En → Rs D := fun ρ => .ok x ρ
theorem d_kd {X : Cx} {e : Expr} {x : D} {v : V} (h : PE X e (tC v)) (hd : ∀ F, DA Z.K F x v) : DE X Z W e (kd x) := ⟨pe_imp h fun σ H Q ⟨F, ρ, ea, q⟩ => q.here ea v (hd F)⟩
/-! ### operations -/
def Po (Z : Zt) (F H : Hp) (Q : VK) (s : S) : Prop := ∀ v F' H', Al F H F' H' → SlA Z F' H' (some v) s → (s.own = true → ∀ p, v = .ref p → H p = none) → Q v H'
def Ok1 (Z : Zt) (r : V → Hp → VK → Prop) (f : D → Option S) : Prop := ∀ F H x v s Q, Same F H → Pk Z.K F H x v → f x = some s → Po Z F H Q s → r v H Q
def Ok2 (Z : Zt) (r : R2) (f : D → D → Option S) : Prop := ∀ F H x y v w s Q, Same F H → Pk Z.K F H x v → Pk Z.K F H y w → f x y = some s → Po Z F H Q s → r v w H Q
def Pks (K : Kt) (F H : Hp) : List D → List V → Prop
  | [], [] => True
  | x :: xs, v :: vs => Pk K F H x v ∧ Pks K F H xs vs
  | _, _ => False
def OkN (Z : Zt) (r : List V → Hp → VK → Prop) (f : List D → Option S) : Prop := ∀ F H xs vs s Q, Same F H → Pks Z.K F H xs vs → f xs = some s → Po Z F H Q s → r vs H Q
theorem Po.of {Q : VK} {s : S} {R : En} (e : EA Z F H σ ρ) (h : Sat Z W F H σ ρ (.ok s ρ) fun s ρ' F' H' => ∀ v, RA Z H σ ρ F' H' ρ' v s → Q v H') : Po Z F H Q s := fun v F' H' al sl fr =>
  h F' H' al.stp (e.al al) v ⟨sl, fun so p hp => ⟨.inr (fr so p hp), fun i oi => by
    obtain ⟨_, u, hu⟩ := e.ownF oi
    rw [fr so p hp] at hu; cases hu⟩⟩
def op1 (f : D → Option S) (h : En → Rs Hd) : En → Rs S := fun ρ => (h ρ).bind fun a ρ1 => Rs.opt (a.res ρ1) fun x => Rs.opt (f x) fun s => .ok s ρ1
def op2 (f : D → D → Option S) (h1 h2 : En → Rs Hd) : En → Rs S := fun ρ => (h1 ρ).bind fun a ρ1 => (h2 ρ1).bind fun b ρ2 => Rs.opt (a.res ρ2) fun x => Rs.opt (b.res ρ2) fun y => Rs.opt (f x y) fun s => .ok s ρ2
def resAll (ρ : En) : List Hd → Option (List D)
  | [] => some []
  | h :: hs => (h.res ρ).bind fun x => (resAll ρ hs).map fun xs => x :: xs
def opn (f : List D → Option S) (g : En → Rs (List Hd)) : En → Rs S := fun ρ => (g ρ).bind fun hs ρ1 => Rs.opt (resAll ρ1 hs) fun xs => Rs.opt (f xs) fun s => .ok s ρ1
/-- the end of an operation: the start was further back -/
theorem Po.back {Q : VK} {s : S} (st : Stp Z F H σ ρ F1 H1 σ ρ1) (e : EA Z F1 H1 σ ρ1) (h : Sat Z W F1 H1 σ ρ1 (.ok s ρ1) fun s ρ' F' H' => ∀ v, RA Z H σ ρ F' H' ρ' v s → Q v H') : Po Z F1 H1 Q s := fun v F' H' al sl fr =>
  h F' H' al.stp (e.al al) v ⟨sl, fun so p hp => ⟨Ori.back st (.inr (fr so p hp)), fun i oi => by
    obtain ⟨_, u, hu⟩ := e.ownF oi
    rw [fr so p hp] at hu; cases hu⟩⟩
theorem op1_in {f : D → Option S} {r : V → Hp → VK → Prop} {h : En → Rs Hd} (ok : Ok1 Z r f) : ∀ σ H Q, dF Z W (op1 f h) σ H Q → dO Z W h σ H fun x H1 => r x H1 Q := fun σ H Q ⟨F, ρ, ea, q⟩ =>
  ⟨F, ρ, ea, q.bind.mono fun a ρ1 F1 H1 st e1 q v hv => by
    obtain ⟨x, ex, q⟩ := q.opt
    obtain ⟨s, es, q⟩ := q.opt
    exact ok F1 H1 x v s Q e1.sub (hv.pk e1 ex) es (Po.back st e1 q)⟩
theorem op2_in {f : D → D → Option S} {r : R2} {h1 h2 : En → Rs Hd} (ok : Ok2 Z r f) : ∀ σ H Q, dF Z W (op2 f h1 h2) σ H Q → tOp r (dO Z W h1) (dO Z W h2) σ H Q := fun σ H Q ⟨F, ρ, ea, q⟩ =>
  ⟨F, ρ, ea, q.bind.mono fun a ρ1 F1 H1 st e1 q v hv => ⟨F1, ρ1, e1, q.bind.mono fun b ρ2 F2 H2 st2 e2 q w hw => by
    obtain ⟨x, ex, q⟩ := q.opt
    obtain ⟨y, ey, q⟩ := q.opt
    obtain ⟨s, es, q⟩ := q.opt
    exact ok F2 H2 x y v w s Q e2.sub ((hv.mono st2.same).pk e2 ex) (hw.pk e2 ey) es (Po.back (st.trans st2) e2 q)⟩⟩
theorem resAll_pk : ∀ {hs : List Hd} {vs : List V} {xs : List D}, EA Z F H σ ρ → HdsA Z.K F σ vs hs → resAll ρ hs = some xs → Pks Z.K F H xs vs
  | [], [], xs, _, _, e => by cases e; trivial
  | h :: hs, v :: vs, xs, ea, q, e => by
    obtain ⟨x, ex, e⟩ := Option.bind_eq_some_iff.mp e
    obtain ⟨ys, ey, rfl⟩ := Option.map_eq_some_iff.mp e
    exact ⟨q.1.pk ea ex, resAll_pk ea q.2 ey⟩
  | [], _ :: _, _, _, q, _ => q.elim
  | _ :: _, [], _, _, q, _ => q.elim
theorem opn_in {f : List D → Option S} {r : List V → Hp → VK → Prop} {g : En → Rs (List Hd)} (ok : OkN Z r f) : ∀ σ H Q, dF Z W (opn f g) σ H Q → dA Z W g σ H fun xs H1 => r xs H1 Q := fun σ H Q ⟨F, ρ, ea, q⟩ =>
  ⟨F, ρ, ea, q.bind.mono fun hs ρ1 F1 H1 st e1 q vs hv => by
    obtain ⟨xs, ex, q⟩ := q.opt
    obtain ⟨s, es, q⟩ := q.opt
    exact ok F1 H1 xs vs s Q e1.sub (resAll_pk e1 hv ex) es (Po.back st e1 q)⟩
/-! argument lists -/
def ar0 : En → Rs (List Hd) := fun ρ => .ok [] ρ
def arc (h : En → Rs Hd) (g : En → Rs (List Hd)) : En → Rs (List Hd) := fun ρ => (h ρ).bind fun a ρ1 => (g ρ1).bind fun as ρ2 => .ok (a :: as) ρ2
theorem d_ar0 {X : Cx} : DR X Z W [] ar0 := ⟨pa_imp pa_nil fun σ H Q ⟨F, ρ, ea, q⟩ => q.here ea [] trivial⟩
theorem d_arc {X : Cx} {e : Expr} {es : List Expr} {h : En → Rs Hd} {g : En → Rs (List Hd)} (he : DO X Z W e h) (hg : DR X Z W es g) (hs : StarOk X e es := by rfl) : DR X Z W (e :: es) (arc h g) :=
  ⟨pa_imp (pa_cons he.pe hg.pa hs) fun σ H Q ⟨F, ρ, ea, q⟩ => ⟨F, ρ, ea, q.bind.mono fun a ρ1 F1 H1 st e1 q v hv => ⟨F1, ρ1, e1, q.bind.mono fun as ρ2 F2 H2 st2 e2 q vs hvs => q.here e2 (v :: vs) ⟨hv.mono st2.same, hvs⟩⟩⟩⟩
end

/-! ### statements -/
inductive Ctl where
  | nx (ρ : En) | ret (s : S) (ρ : En) | brk (ρ : En) | cnt (ρ : En) | exc (c : Nat) (xs : List D) (ρ : En) | stuck
def Rs.ctl {α : Type} (r : Rs α) (k : α → En → Ctl) : Ctl := match r with
  | .ok a ρ => k a ρ
  | .exc c xs ρ => .exc c xs ρ
  | .stuck => .stuck
@[simp] theorem Rs.ctl_ok {α : Type} (a : α) (ρ : En) (k : α → En → Ctl) : (Rs.ok a ρ).ctl k = k a ρ := rfl
@[simp] theorem Rs.ctl_exc {α : Type} (c : Nat) (xs : List D) (ρ : En) (k : α → En → Ctl) : (Rs.exc c xs ρ : Rs α).ctl k = .exc c xs ρ := rfl
@[simp] theorem Rs.ctl_stuck {α : Type} (k : α → En → Ctl) : (Rs.stuck : Rs α).ctl k = .stuck := rfl
def Ctl.then (r : Ctl) (k : En → Ctl) : Ctl := match r with
  | .nx ρ => k ρ
  | r => r
@[simp] theorem Ctl.then_nx (ρ : En) (k : En → Ctl) : (Ctl.nx ρ).then k = k ρ := rfl
@[simp] theorem Ctl.then_ret (s : S) (ρ : En) (k : En → Ctl) : (Ctl.ret s ρ).then k = .ret s ρ := rfl
@[simp] theorem Ctl.then_brk (ρ : En) (k : En → Ctl) : (Ctl.brk ρ).then k = .brk ρ := rfl
@[simp] theorem Ctl.then_cnt (ρ : En) (k : En → Ctl) : (Ctl.cnt ρ).then k = .cnt ρ := rfl
@[simp] theorem Ctl.then_exc (c : Nat) (xs : List D) (ρ : En) (k : En → Ctl) : (Ctl.exc c xs ρ).then k = .exc c xs ρ := rfl
@[simp] theorem Ctl.then_stuck (k : En → Ctl) : Ctl.stuck.then k = .stuck := rfl
/-- the ends from a first moment F₀ H₀ σ₀ ρ₀ on -/
def StS (Z : Zt) (W : WX) (F H : Hp) (σ : L2.St) (ρ : En) (r : Ctl) (E : Ends) : Prop := match r with
  | .nx ρ' => ∀ σ' F' H', Stp Z F H σ ρ F' H' σ' ρ' → EA Z F' H' σ' ρ' → E.nx σ' H'
  | .brk ρ' => ∀ σ' F' H', Stp Z F H σ ρ F' H' σ' ρ' → EA Z F' H' σ' ρ' → E.bk σ' H'
  | .cnt ρ' => ∀ σ' F' H', Stp Z F H σ ρ F' H' σ' ρ' → EA Z F' H' σ' ρ' → E.ct σ' H'
  | .ret s ρ' => ∀ v σ' F' H', Stp Z F H σ ρ F' H' σ' ρ' → EA Z F' H' σ' ρ' → SlA Z F' H' (some v) s → (s.own = true → ∀ p, v = .ref p → Ori H σ ρ p ∧ ∀ i, ¬ OwnI σ' ρ' i p) → E.rt v H'
  | .exc c xs ρ' => ∀ cls dd σ' F' H', Stp Z F H σ ρ F' H' σ' ρ' → EA Z F' H' σ' ρ' → XA Z.K F' cls dd c xs → W cls dd σ' H'
  | .stuck => False
def dS (Z : Zt) (W : WX) (m : En → Ctl) : TS := fun E σ H => ∃ F ρ, EA Z F H σ ρ ∧ StS Z W F H σ ρ (m ρ) E
structure DS (X : Cx) (Z : Zt) (W : WX) (st : Stmt) (m : En → Ctl) : Prop where
  ps : PS X st (dS Z W m)
structure DB (X : Cx) (Z : Zt) (W : WX) (st : List Stmt) (m : En → Ctl) : Prop where
  pss : PSs X st (dS Z W m)
section
variable {α : Type} {Z : Zt} {W : WX} {F H F1 H1 : Hp} {σ σ1 : L2.St} {ρ ρ1 : En} {E : Ends}
theorem StS.from (s : Stp Z F H σ ρ F1 H1 σ1 ρ1) {r : Ctl} (h : StS Z W F H σ ρ r E) : StS Z W F1 H1 σ1 ρ1 r E := by
  cases r with
  | stuck => exact h
  | nx ρ' => exact fun σ' F' H' t e => h σ' F' H' (s.trans t) e
  | brk ρ' => exact fun σ' F' H' t e => h σ' F' H' (s.trans t) e
  | cnt ρ' => exact fun σ' F' H' t e => h σ' F' H' (s.trans t) e
  | ret v ρ' => exact fun v σ' F' H' t e sl fr => h v σ' F' H' (s.trans t) e sl fun so p hp => ⟨Ori.back s (fr so p hp).1, (fr so p hp).2⟩
  | exc c xs ρ' => exact fun cls dd σ' F' H' t e x => h cls dd σ' F' H' (s.trans t) e x
theorem StS.ctl {r : Rs α} {k : α → En → Ctl} (h : StS Z W F H σ ρ (r.ctl k) E) : Sat Z W F H σ ρ r fun a ρ1 F1 H1 => StS Z W F1 H1 σ ρ1 (k a ρ1) E := by
  cases r with
  | stuck => exact h
  | exc c xs ρ' => exact fun F' H' cls dd s e x => h cls dd σ F' H' s e x
  | ok a ρ1 => exact fun F1 H1 s e => StS.from s h
theorem StS.then {r : Ctl} {k : En → Ctl} (h : StS Z W F H σ ρ (r.then k) E) : StS Z W F H σ ρ r { E with nx := fun σ' H' => ∃ F' ρ', EA Z F' H' σ' ρ' ∧ StS Z W F' H' σ' ρ' (k ρ') E } := by
  cases r with
  | stuck => exact h
  | nx ρ' => exact fun σ' F' H' t e => ⟨F', ρ', e, StS.from t h⟩
  | brk ρ' => exact h
  | cnt ρ' => exact h
  | ret v ρ' => exact h
  | exc c xs ρ' => exact h
/-! blocks -/
def b0 : En → Ctl := fun ρ => .nx ρ
def bc (m k : En → Ctl) : En → Ctl := fun ρ => (m ρ).then k
theorem d_b0 {X : Cx} : DB X Z W [] b0 := ⟨pss_imp pss_nil fun E σ H ⟨F, ρ, ea, q⟩ => q σ F H Stp.refl ea⟩
theorem d_b1 {X : Cx} {st : Stmt} {m : En → Ctl} (h : DS X Z W st m) : DB X Z W [st] m := ⟨pss_imp (pss_one h.ps) fun E σ H q => q⟩
theorem d_bc {X : Cx} {st : Stmt} {sts : List Stmt} {m k : En → Ctl} (h : DS X Z W st m) (t : DB X Z W sts k) : DB X Z W (st :: sts) (bc m k) := ⟨pss_imp (pss_cons h.ps t.pss) fun E σ H ⟨F, ρ, ea, q⟩ => ⟨F, ρ, ea, q.then⟩⟩
/-! return, expression statements, if -/
def ret (m : En → Rs S) : En → Ctl := fun ρ => (m ρ).ctl fun s ρ' => .ret s ρ'
def retN : En → Ctl := fun ρ => .ret (.d .non) ρ
def drp (m : En → Rs S) : En → Ctl := fun ρ => (m ρ).ctl fun _ ρ' => .nx ρ'
def ifS (c : En → Rs Bool) (t u : En → Ctl) : En → Ctl := fun ρ => (c ρ).ctl fun b ρ' => if b = true then t ρ' else u ρ'
def pas : En → Ctl := fun ρ => .nx ρ
def brkS : En → Ctl := fun ρ => .brk ρ
def cntS : En → Ctl := fun ρ => .cnt ρ
theorem d_ret {X : Cx} {e : Expr} {pos : Pos} {m : En → Rs S} (h : DF X Z W e m) : DS X Z W (.Return (some e) pos) (ret m) := ⟨ps_imp (ps_ret h.pe) fun E σ H ⟨F, ρ, ea, q⟩ => ⟨F, ρ, ea, by
  unfold ret at q
  cases r : m ρ with
  | stuck => rw [r] at q; exact q
  | exc => rw [r] at q; exact fun F' H' cls dd s e x => q cls dd σ F' H' s e x
  | ok s ρ1 =>
    rw [r, Rs.ctl_ok] at q
    exact fun F' H' st e v ra => q v σ F' H' st e ra.1 ra.2⟩⟩
theorem d_retN {X : Cx} {pos : Pos} : DS X Z W (.Return none pos) retN := ⟨ps_imp ps_retN fun E σ H ⟨F, ρ, ea, q⟩ => q .non σ F H Stp.refl ea ⟨.non, rfl, DA.non⟩ (fun z => nomatch z)⟩
theorem d_drp {X : Cx} {e : Expr} {pos : Pos} {m : En → Rs S} (h : DF X Z W e m) (hs : swapsWith e none pos.line X.env = pure false := by rfl) : DS X Z W (.Expr e pos) (drp m) := ⟨ps_imp (ps_expr h.pe hs) fun E σ H ⟨F, ρ, ea, q⟩ => ⟨F, ρ, ea, q.ctl.mono fun s ρ' F' H' st e p v _ => p σ F' H' Stp.refl e⟩⟩
theorem d_if {X : Cx} {c : Expr} {pos : Pos} {a b : List Stmt} {m : En → Rs Bool} {t u : En → Ctl} (h : DT X Z W c m) (ht : DB X Z W a t) (hu : DB X Z W b u) : DS X Z W (.If c a b pos) (ifS m t u) := ⟨ps_imp (ps_if h.pt ht.pss hu.pss) fun E σ H ⟨F, ρ, ea, q⟩ => ⟨F, ρ, ea, q.ctl.mono fun b ρ' F' H' st e p => by
  cases b with
  | true => rw [if_pos rfl] at p ⊢; exact ⟨F', ρ', e, p⟩
  | false => rw [if_neg Bool.false_ne_true] at p ⊢; exact ⟨F', ρ', e, p⟩⟩⟩
theorem d_pas {X : Cx} {pos : Pos} : DS X Z W (.Pass pos) pas := ⟨ps_imp ps_pass fun E σ H ⟨F, ρ, ea, q⟩ => q σ F H Stp.refl ea⟩
theorem d_brk {X : Cx} {pos : Pos} : DS X Z W (.Break pos) brkS := ⟨ps_imp ps_break fun E σ H ⟨F, ρ, ea, q⟩ => q σ F H Stp.refl ea⟩
theorem d_cnt {X : Cx} {pos : Pos} : DS X Z W (.Continue pos) cntS := ⟨ps_imp ps_continue fun E σ H ⟨F, ρ, ea, q⟩ => q σ F H Stp.refl ea⟩
/-! targets -/
inductive Tg where
  | nm (i : Nat) | tp (ts : List Tg)
mutual
def Tg.put : Tg → D → En → Option En
  | .nm i, x, ρ => some (ρ.set i (.d x))
  | .tp ts, .tup xs, ρ => Tg.puts ts xs ρ
  | .tp ts, .lst xs, ρ => Tg.puts ts xs ρ
  | .tp _, _, _ => none
def Tg.puts : List Tg → List D → En → Option En
  | [], [], ρ => some ρ
  | t :: ts, x :: xs, ρ => (t.put x ρ).bind fun ρ' => Tg.puts ts xs ρ'
  | _, _, _ => none
end
mutual
def Tg.sl : Tg → List Nat
  | .nm i => [i]
  | .tp ts => Tg.sls ts
def Tg.sls : List Tg → List Nat
  | [] => []
  | t :: ts => t.sl ++ Tg.sls ts
end
/-- only these slots are other ones -/
def Oth (L : List Nat) (σ σ' : L2.St) : Prop := σ'.length = σ.length ∧ ∀ j, j ∉ L → σ'[j]? = σ[j]?
/-- the rule of a target: the reading g is had by put -/
def GOk (Z : Zt) (g : TG) (t : Tg) : Prop := ∀ F H σ ρ x v ρ' P, EA Z F H σ ρ → DA Z.K F x v → t.put x ρ = some ρ' → (∀ σ', Stp Z F H σ ρ F H σ' ρ' → EA Z F H σ' ρ' → Oth t.sl σ σ' → P σ' H) → g v σ H P
def GsOk (Z : Zt) (g : TGs) (ts : List Tg) : Prop := ∀ F H σ ρ xs vs ρ' P, EA Z F H σ ρ → DAs Z.K F xs vs → Tg.puts ts xs ρ = some ρ' → (∀ σ', Stp Z F H σ ρ F H σ' ρ' → EA Z F H σ' ρ' → Oth (Tg.sls ts) σ σ' → P σ' H) → g vs σ H P
/-- a slot is set, to what is not one's own -/
theorem set_d (e : EA Z F H σ ρ) {i : Nat} (hi : i ∉ Z.bp) {s : S} {v : V} (h : SlA Z F H (some v) s) (n : s.own = true → ∀ p, v = .ref p → (∃ j, OwnI σ ρ j p) ∨ H p = none) (n' : s.own = true → ∀ p, v = .ref p → ∀ j, ¬ OwnI σ ρ j p) :
    Stp Z F H σ ρ F H (σ.set i (some v)) (ρ.set i s) ∧ EA Z F H (σ.set i (some v)) (ρ.set i s) := by
  have key : ∀ j a, OwnI (σ.set i (some v)) (ρ.set i s) j a → (j = i ∧ s.own = true ∧ v = .ref a) ∨ (j ≠ i ∧ OwnI σ ρ j a) := by
    intro j a ⟨h1, t, h2, h3⟩
    by_cases c : j = i
    · subst c
      rw [List.getElem?_set] at h1 h2
      by_cases q : j < ρ.length
      · have q' : j < σ.length := by rw [← e.len]; exact q
        simp [q, q'] at h1 h2
        subst h2
        exact .inl ⟨rfl, h3, h1⟩
      · simp [q] at h2
    · rw [List.getElem?_set] at h1 h2
      simp [Ne.symm c] at h1 h2
      exact .inr ⟨c, h1, t, h2, h3⟩
  refine ⟨⟨Same.refl _, fun b q => .inl q, fun b o q _ => q, fun j b q => ?_, fun j hj _ => ?_, by rw [List.length_set]; exact Nat.le_refl _⟩, ⟨e.sub, by rw [List.length_set, List.length_set]; exact e.len, fun j t q => ?_, fun j k a h1 h2 => ?_⟩⟩
  · rcases key j b q with ⟨_, so, hv⟩ | ⟨_, o⟩
    · exact n so b hv
    · exact .inl ⟨j, o⟩
  · rw [List.getElem?_set]
    by_cases c : i = j
    · subst c; exact absurd hj hi
    · rw [if_neg c]
  · by_cases c : j = i
    · subst c
      rw [List.getElem?_set] at q
      by_cases z : j < ρ.length
      · simp [z] at q; subst q
        rw [List.getElem?_set]
        have z' : j < σ.length := by rw [← e.len]; exact z
        simp [z']
        exact h
      · simp [z] at q
    · rw [List.getElem?_set] at q ⊢
      simp [Ne.symm c] at q ⊢
      exact e.sl j t q
  · rcases key j a h1 with ⟨e1, o1, a1⟩ | ⟨e1, o1⟩
    · rcases key k a h2 with ⟨e2, o2, a2⟩ | ⟨e2, o2⟩
      · rw [e1, e2]
      · exact absurd o2 (n' o1 a a1 k)
    · rcases key k a h2 with ⟨e2, o2, a2⟩ | ⟨e2, o2⟩
      · exact absurd o1 (n' o2 a a2 j)
      · exact e.dis j k a o1 o2
theorem g_nm {i : Nat} (hi : i ∉ Z.bp) : GOk Z (gName i) (.nm i) := fun F H σ ρ x v ρ' P e d q k => by
  cases q
  obtain ⟨s, e'⟩ := set_d (s := .d x) e hi ⟨v, rfl, d⟩ (fun z => nomatch z) (fun z => nomatch z)
  refine k _ s e' ⟨List.length_set, fun j hj => ?_⟩
  rw [List.getElem?_set, if_neg]
  intro z
  exact hj (by rw [z]; simp [Tg.sl])
theorem gs_nil : GsOk Z gNil [] := fun F H σ ρ xs vs ρ' P e d q k => by
  cases xs with
  | nil => cases q; exact ⟨d.nil', k σ Stp.refl e ⟨rfl, fun _ _ => rfl⟩⟩
  | cons => cases q
theorem gs_cons {g : TG} {gs : TGs} {t : Tg} {ts : List Tg} (h : GOk Z g t) (hs : GsOk Z gs ts) : GsOk Z (gCons g gs) (t :: ts) := fun F H σ ρ xs vs ρ' P e d q k => by
  cases xs with
  | nil => cases q
  | cons x xs =>
    obtain ⟨v, r, rfl, d1, d2⟩ := d.cons'
    obtain ⟨ρ1, q1, q2⟩ := Option.bind_eq_some_iff.mp q
    exact ⟨v, r, rfl, h F H σ ρ x v ρ1 _ e d1 q1 fun σ1 s1 e1 o1 => hs F H σ1 ρ1 xs r ρ' P e1 d2 q2 fun σ2 s2 e2 o2 => k σ2 (s1.trans s2) e2 ⟨o2.1.trans o1.1, fun j hj => by
      simp only [Tg.sls, List.mem_append] at hj
      rw [o2.2 j fun z => hj (.inr z), o1.2 j fun z => hj (.inl z)]⟩⟩
theorem puts_len : ∀ {ts : List Tg} {xs : List D} {ρ ρ' : En}, Tg.puts ts xs ρ = some ρ' → xs.length = ts.length
  | [], [], _, _, _ => rfl
  | [], _ :: _, _, _, h => by simp [Tg.puts] at h
  | _ :: _, [], _, _, h => by simp [Tg.puts] at h
  | t :: ts, x :: xs, ρ, ρ', h => by
    obtain ⟨ρ1, _, q2⟩ := Option.bind_eq_some_iff.mp (show (t.put x ρ).bind (fun ρ' => Tg.puts ts xs ρ') = some ρ' from h)
    rw [List.length_cons, List.length_cons, puts_len q2]
theorem g_tp {n : Nat} {gs : TGs} {ts : List Tg} (hs : GsOk Z gs ts) (hn : ts.length = n := by rfl) : GOk Z (gTA Z.K.K n gs) (.tp ts) := fun F H σ ρ x v ρ' P e d q k => by
  cases x with
  | tup xs =>
    obtain ⟨a, vs, rfl, h1, h2⟩ := d.tup'
    exact .inl ⟨a, vs, rfl, same_t e.sub h1, by rw [h2.length, puts_len q, hn], hs F H σ ρ xs vs ρ' P e h2 q k⟩
  | lst xs =>
    obtain ⟨a, vs, rfl, h1, h2⟩ := d.lst'
    exact .inr ⟨a, vs, rfl, e.sub.seq h1, by rw [h2.length, puts_len q, hn], hs F H σ ρ xs vs ρ' P e h2 q k⟩
  | _ => cases q
/-! assignments -/
def asg (m : En → Rs D) (t : Tg) : En → Ctl := fun ρ => (m ρ).ctl fun x ρ' => match t.put x ρ' with | some ρ2 => .nx ρ2 | none => .stuck
def set (i : Nat) (m : En → Rs S) : En → Ctl := fun ρ => (m ρ).ctl fun s ρ' => .nx (ρ'.set i s)
theorem asg_in {m : En → Rs D} {g : TG} {t : Tg} (hg : GOk Z g t) : ∀ E σ H, dS Z W (asg m t) E σ H → tAsg (dE Z W m) g E σ H := fun E σ H ⟨F, ρ, ea, q⟩ => ⟨F, ρ, ea, q.ctl.mono fun x ρ' F' H' st e p v hv => by
  cases r : t.put x ρ' with
  | none => rw [r] at p; exact p.elim
  | some ρ2 => rw [r] at p; exact hg F' H' σ ρ' x v ρ2 _ e hv r fun σ2 s2 e2 _ => p σ2 F' H' s2 e2⟩
theorem d_asg {X : Cx} {pos : Pos} {tg e : Expr} {m : En → Rs D} {g : TG} {t : Tg} (h : DE X Z W e m) (pg : PG X tg g) (hg : GOk Z g t) (h1 : swapsWithSole [tg] e pos.line X.env = pure false := by rfl) (h2 : swappedStores [tg] e X.env = pure none := by rfl) (h3 : (assignEach [tg] X.env).map (·.2) = [assign tg X.env] := by rfl) : DS X Z W (.Assign [tg] e pos) (asg m t) :=
  ⟨ps_imp (ps_asg h.pe pg h1 h2 h3) (asg_in hg)⟩
theorem set_in {m : En → Rs S} {i : Nat} (hi : i ∉ Z.bp) : ∀ E σ H, dS Z W (set i m) E σ H → tAsg (dF Z W m) (gName i) E σ H := fun E σ H ⟨F, ρ, ea, q⟩ => ⟨F, ρ, ea, by
  unfold set at q
  cases r : m ρ with
  | stuck => rw [r] at q; exact q
  | exc => rw [r] at q; exact fun F' H' cls dd s e x => q cls dd σ F' H' s e x
  | ok s ρ1 =>
    rw [r, Rs.ctl_ok] at q
    intro F' H' st e v ra
    have fresh : s.own = true → ∀ p, v = .ref p → ∀ j, ¬ OwnI σ ρ1 j p := fun so p hp => (ra.2 so p hp).2
    -- the slot as data first, then what it is
    by_cases so : s.own = true
    · obtain ⟨a, hv, fa, u, hu⟩ := ra.1.ownI so
      have hv : v = .ref a := by cases hv; rfl
      have key : ∀ j b, OwnI (σ.set i (some v)) (ρ1.set i s) j b → (j = i ∧ b = a) ∨ (j ≠ i ∧ OwnI σ ρ1 j b) := by
        intro j b ⟨h1, t, h2, h3⟩
        by_cases c : j = i
        · subst c
          rw [List.getElem?_set] at h1
          by_cases z : j < σ.length
          · simp [z] at h1; rw [hv] at h1; cases h1; exact .inl ⟨rfl, rfl⟩
          · simp [z] at h1
        · rw [List.getElem?_set] at h1 h2
          simp [Ne.symm c] at h1 h2
          exact .inr ⟨c, h1, t, h2, h3⟩
      refine q _ F' H' ?_ ?_
      · refine ⟨st.same, st.new, st.keep, fun j b z => ?_, fun j hj _ => ?_, by rw [List.length_set]; exact Nat.le_refl _⟩
        · rcases key j b z with ⟨_, rfl⟩ | ⟨_, o⟩
          · exact (ra.2 so _ hv).1
          · exact st.own j b o
        · rw [List.getElem?_set]
          by_cases c : i = j
          · subst c; exact absurd hj hi
          · rw [if_neg c]
      · refine ⟨e.sub, by rw [List.length_set, List.length_set]; exact e.len, fun j t z => ?_, fun j k b h1 h2 => ?_⟩
        · by_cases c : j = i
          · subst c
            rw [List.getElem?_set] at z
            by_cases y : j < ρ1.length
            · simp [y] at z; subst z
              rw [List.getElem?_set]
              have y' : j < σ.length := by rw [← e.len]; exact y
              simp [y']
              exact ra.1
            · simp [y] at z
          · rw [List.getElem?_set] at z ⊢
            simp [Ne.symm c] at z ⊢
            exact e.sl j t z
        · rcases key j b h1 with ⟨e1, b1⟩ | ⟨e1, o1⟩
          · rcases key k b h2 with ⟨e2, _⟩ | ⟨e2, o2⟩
            · rw [e1, e2]
            · rw [b1] at o2; exact absurd o2 (fresh so a hv k)
          · rcases key k b h2 with ⟨e2, b2⟩ | ⟨e2, o2⟩
            · rw [b2] at o1; exact absurd o1 (fresh so a hv j)
            · exact e.dis j k b o1 o2
    · obtain ⟨s2, e2⟩ := set_d (s := s) (v := v) e hi ra.1 (fun z => absurd z so) (fun z => absurd z so)
      exact q _ F' H' (st.trans s2) e2⟩
theorem d_set {X : Cx} {pos pos' : Pos} {i : Nat} {x : Str} {e : Expr} {m : En → Rs S} (hi : i ∉ Z.bp) (h : DF X Z W e m) (hn : X.N.Nodup) (hx : X.N[i]? = some x) (hl : Loc X.env.scope x) (hs : swapsWith e (some (.Name x pos')) pos.line X.env = pure false := by rfl)
    (hf : X.fn x = true ∨ X.env.scope.names.lookup x = some .local := by first | exact .inl rfl | exact .inr rfl) : DS X Z W (.Assign [.Name x pos'] e pos) (set i m) := ⟨ps_imp (ps_set hn hx hl h.pe hs hf) (set_in hi)⟩
end

section
variable {α : Type} {Z : Zt} {W : WX} {F H F1 H1 : Hp} {σ σ1 : L2.St} {ρ ρ1 : En} {E : Ends}
/-! ### loops -/
/-- what a for walks: the things, one by one -/
structure ItD (Z : Zt) (F : Hp) (J : It) (its : List D) : Prop where
  go : ∀ i H, Same F H → i < its.length → J.go i H
  yl : ∀ i x F1 H H', Same F F1 → Same F1 H → i < its.length → J.yld i H x H' → ∃ F2 d, Al F1 H F2 H' ∧ its[i]? = some d ∧ DA Z.K F2 d x
  st : ∀ H, Same F H → J.stop its.length H
def dI (Z : Zt) (W : WX) (m : En → Rs (List D)) : TI := fun σ H R => ∃ F ρ, EA Z F H σ ρ ∧ Sat Z W F H σ ρ (m ρ) fun its ρ' F' H' => ∀ J, ItD Z F' J its → R J H'
structure DI (X : Cx) (Z : Zt) (W : WX) (tg it : Expr) (m : En → Rs (List D)) : Prop where
  pi : PI X tg it (dI Z W m)
theorem pi_imp {X : Cx} {tg e : Expr} {t t' : TI} (h : PI X tg e t) (i : ∀ σ H Q, t' σ H Q → t σ H Q) : PI X tg e t' := ⟨fun pins s σ H Q I z => h.run pins s σ H Q I (i σ H Q z)⟩
def lpS (r : Ctl) (k : En → Ctl) : Ctl := match r with
  | .nx ρ => k ρ | .cnt ρ => k ρ | .brk ρ => .nx ρ | r => r
@[simp] theorem lpS_nx (ρ : En) (k : En → Ctl) : lpS (.nx ρ) k = k ρ := rfl
@[simp] theorem lpS_cnt (ρ : En) (k : En → Ctl) : lpS (.cnt ρ) k = k ρ := rfl
@[simp] theorem lpS_brk (ρ : En) (k : En → Ctl) : lpS (.brk ρ) k = .nx ρ := rfl
@[simp] theorem lpS_ret (s : S) (ρ : En) (k : En → Ctl) : lpS (.ret s ρ) k = .ret s ρ := rfl
@[simp] theorem lpS_exc (c : Nat) (xs : List D) (ρ : En) (k : En → Ctl) : lpS (.exc c xs ρ) k = .exc c xs ρ := rfl
@[simp] theorem lpS_stuck (k : En → Ctl) : lpS .stuck k = .stuck := rfl
def putC (t : Tg) (x : D) (ρ : En) (k : En → Ctl) : Ctl := match t.put x ρ with
  | some ρ2 => k ρ2
  | none => .stuck
def forL (t : Tg) (b : En → Ctl) : List D → En → Ctl
  | [], ρ => .nx ρ
  | x :: xs, ρ => putC t x ρ fun ρ2 => lpS (b ρ2) (forL t b xs)
def forS (m : En → Rs (List D)) (t : Tg) (b : En → Ctl) : En → Ctl := fun ρ => (m ρ).ctl fun its ρ1 => forL t b its ρ1
theorem StS.lp {r : Ctl} {k : En → Ctl} (h : StS Z W F H σ ρ (lpS r k) E) :
    StS Z W F H σ ρ r { E with nx := fun σ' H' => ∃ F' ρ', EA Z F' H' σ' ρ' ∧ Same F F' ∧ StS Z W F' H' σ' ρ' (k ρ') E, ct := fun σ' H' => ∃ F' ρ', EA Z F' H' σ' ρ' ∧ Same F F' ∧ StS Z W F' H' σ' ρ' (k ρ') E, bk := E.nx } := by
  cases r with
  | stuck => exact h
  | nx ρ' => exact fun σ' F' H' t e => ⟨F', ρ', e, t.same, StS.from t h⟩
  | brk ρ' => exact h
  | cnt ρ' => exact fun σ' F' H' t e => ⟨F', ρ', e, t.same, StS.from t h⟩
  | ret v ρ' => exact h
  | exc c xs ρ' => exact h
theorem StS.put {t : Tg} {x : D} {k : En → Ctl} (h : StS Z W F H σ ρ (putC t x ρ k) E) : ∃ ρ2, t.put x ρ = some ρ2 ∧ StS Z W F H σ ρ (k ρ2) E := by
  unfold putC at h
  cases q : t.put x ρ with
  | none => rw [q] at h; exact h.elim
  | some ρ2 => rw [q] at h; exact ⟨ρ2, rfl, h⟩
theorem d_for {X : Cx} {tg it : Expr} {body : List Stmt} {pos : Pos} {m : En → Rs (List D)} {g : TG} {t : Tg} {b : En → Ctl} (hp : PassesOwn (model X.prog X.w) X.A X.env X.xe) (hc : X.calm = true) (hi : DI X Z W tg it m) (hg : PG X tg g) (ht : GOk Z g t) (hb : DB X Z W body b)
    (hs : ∀ x, foldedSetIterable it X.env x = pure x := by first | exact fun _ => rfl | (intro _; rfl)) : DS X Z W (.For tg it body [] pos) (forS m t b) := ⟨ps_imp (ps_for hp hc hi.pi hg hb.pss hs) fun E σ H ⟨F, ρ, ea, q⟩ => ⟨F, ρ, ea, q.ctl.mono fun its ρ0 F0 H0 st e0 p J IT => by
  refine ⟨fun i n σ' H' => n = its.length - i ∧ i ≤ its.length ∧ ∃ F1 ρ1, EA Z F1 H' σ' ρ1 ∧ Same F0 F1 ∧ StS Z W F1 H' σ' ρ1 (forL t b (its.drop i) ρ1) E, ⟨_, rfl, Nat.zero_le _, F0, ρ0, e0, Same.refl _, p⟩, ?_⟩
  rintro i n σ1 H1 ⟨rfl, hi, F1, ρ1, e1, s1, p1⟩
  by_cases hlt : i < its.length
  · refine .inr ⟨IT.go i H1 (s1.trans e1.sub) hlt, fun σ' H' => i + 1 ≤ its.length ∧ ∃ F1 ρ1, EA Z F1 H' σ' ρ1 ∧ Same F0 F1 ∧ StS Z W F1 H' σ' ρ1 (forL t b (its.drop (i + 1)) ρ1) E, fun σ' H' z => ⟨its.length - (i + 1), by omega, rfl, z⟩, fun x H' yl => ?_⟩
    obtain ⟨F2, d, al, ed, hd⟩ := IT.yl i x F1 H1 H' s1 e1.sub hlt yl
    have e2 := e1.al al
    have dr : its.drop i = d :: its.drop (i + 1) := by
      rw [List.drop_eq_getElem_cons hlt]
      have := List.getElem?_eq_getElem hlt
      rw [ed] at this
      rw [Option.some.inj this]
    rw [dr] at p1
    obtain ⟨ρ2, ep, p2⟩ := StS.put (p1.from al.stp)
    refine ht F2 H' σ1 ρ1 d x ρ2 _ e2 hd ep fun σ2 st2 e3 _ => ⟨F2, ρ2, e3, ?_⟩
    have p3 := (p2.from st2).lp
    have up : ∀ σ' H', (∃ F' ρ', EA Z F' H' σ' ρ' ∧ Same F2 F' ∧ StS Z W F' H' σ' ρ' (forL t b (its.drop (i + 1)) ρ') E) → i + 1 ≤ its.length ∧ ∃ F1 ρ1, EA Z F1 H' σ' ρ1 ∧ Same F0 F1 ∧ StS Z W F1 H' σ' ρ1 (forL t b (its.drop (i + 1)) ρ1) E := fun σ' H' ⟨F', ρ', a1, a2, a3⟩ => ⟨hlt, F', ρ', a1, (s1.trans al.same).trans a2, a3⟩
    revert p3
    cases b ρ2 with
    | stuck => exact fun z => z
    | nx ρ' => exact fun z σ' F' H' t e => up _ _ (z σ' F' H' t e)
    | cnt ρ' => exact fun z σ' F' H' t e => up _ _ (z σ' F' H' t e)
    | brk ρ' => exact fun z => z
    | ret v ρ' => exact fun z => z
    | exc c xs ρ' => exact fun z => z
  · have ei : i = its.length := by omega
    subst ei
    rw [List.drop_length] at p1
    exact .inl ⟨IT.st H1 (s1.trans e1.sub), p1 σ1 F1 H1 Stp.refl e1⟩⟩⟩
def whL (c : En → Rs Bool) (b : En → Ctl) : Nat → En → Ctl
  | 0, _ => .stuck
  | n + 1, ρ => (c ρ).ctl fun x ρ1 => if x = true then lpS (b ρ1) (whL c b n) else .nx ρ1
theorem d_while {X : Cx} {c : Expr} {body : List Stmt} {pos : Pos} {m : En → Rs Bool} {b : En → Ctl} (n : Nat) (hp : PassesOwn (model X.prog X.w) X.A X.env X.xe) (hc : DT X Z W c m) (hb : DB X Z W body b) : DS X Z W (.While c body [] pos) (whL m b n) := ⟨ps_imp (ps_while hp hc.pt hb.pss) fun E σ H ⟨F, ρ, ea, q⟩ => by
  refine ⟨fun n σ' H' => ∃ F1 ρ1, EA Z F1 H' σ' ρ1 ∧ StS Z W F1 H' σ' ρ1 (whL m b n ρ1) E, ⟨n, F, ρ, ea, q⟩, ?_⟩
  rintro n σ1 H1 ⟨F1, ρ1, e1, p1⟩
  cases n with
  | zero => exact p1.elim
  | succ n =>
    refine ⟨F1, ρ1, e1, StS.ctl p1 |>.mono fun x ρ2 F2 H2 st e2 p => ?_⟩
    cases x with
    | false => rw [if_neg Bool.false_ne_true] at p ⊢; exact p σ1 F2 H2 Stp.refl e2
    | true =>
      rw [if_pos rfl] at p ⊢
      refine ⟨fun σ' H' => ∃ F1 ρ1, EA Z F1 H' σ' ρ1 ∧ StS Z W F1 H' σ' ρ1 (whL m b n ρ1) E, fun σ' H' z => ⟨n, Nat.lt_succ_self n, z⟩, F2, ρ2, e2, ?_⟩
      have p3 := p.lp
      revert p3
      cases b ρ2 with
      | stuck => exact fun z => z
      | nx ρ' => exact fun z σ' F' H' t e => let ⟨F3, ρ3, a1, _, a3⟩ := z σ' F' H' t e; ⟨F3, ρ3, a1, a3⟩
      | cnt ρ' => exact fun z σ' F' H' t e => let ⟨F3, ρ3, a1, _, a3⟩ := z σ' F' H' t e; ⟨F3, ρ3, a1, a3⟩
      | brk ρ' => exact fun z => z
      | ret v ρ' => exact fun z => z
      | exc c xs ρ' => exact fun z => z⟩
/-! ### calls -/
def argS (ρ : En) : Hd → Option S
  | .sl i => match ρ[i]? with | some s => s.dat.map fun _ => s | none => none
  | .dt x => some (.d x)
def argsS (ρ : En) : List Hd → Option (List S)
  | [] => some []
  | h :: hs => (argS ρ h).bind fun s => (argsS ρ hs).map fun ss => s :: ss
def sls : List Hd → List Nat
  | [] => []
  | .sl i :: hs => i :: sls hs
  | .dt _ :: hs => sls hs
def backS : List Hd → List S → En → En
  | .sl i :: hs, s :: ss, ρ => backS hs ss (ρ.set i s)
  | .dt _ :: hs, _ :: ss, ρ => backS hs ss ρ
  | _, _, ρ => ρ
def rsB (hs : List Hd) (ρ : En) (r : Rs S) : Rs S := match r with
  | .ok s ss' => .ok s (backS hs ss' ρ)
  | .exc c xs ss' => .exc c xs (backS hs ss' ρ)
  | .stuck => .stuck
def callf (n : Nat) (m : List S → Rs S) (g : En → Rs (List Hd)) : En → Rs S := fun ρ => (g ρ).bind fun hs ρ1 => Rs.opt (argsS ρ1 hs) fun ss => if hs.length = n ∧ (sls hs).Nodup then rsB hs ρ1 (m ss) else .stuck
/-- a def's promise: what its function of data comes to -/
def Zt.fn (Z : Zt) : Zt := ⟨Z.K, [], none⟩
def spD (K : Kt) (n : Nat) (m : List S → Rs S) : Sp := fun vs H Q E => vs.length = n ∧ ∃ F ss, EA ⟨K, [], none⟩ F H (vs.map some) ss ∧
  Sat ⟨K, [], none⟩ (fun cls dd _ H' => E cls dd H') F H (vs.map some) ss (m ss) fun s ss' F' H' => ∀ v, RA ⟨K, [], none⟩ H (vs.map some) ss F' H' ss' v s → Q v H'
theorem mem_sls : ∀ {hs : List Hd} {k i : Nat}, hs[k]? = some (.sl i) → i ∈ sls hs
  | [], k, i, h => by simp at h
  | .sl j :: hs, 0, i, h => by simp at h; subst h; exact List.mem_cons_self
  | .dt x :: hs, 0, i, h => by simp at h
  | .sl j :: hs, k + 1, i, h => List.mem_cons_of_mem _ (mem_sls (by simpa using h))
  | .dt x :: hs, k + 1, i, h => mem_sls (hs := hs) (by simpa using h)
theorem sls_inj : ∀ {hs : List Hd} {k l i : Nat}, (sls hs).Nodup → hs[k]? = some (.sl i) → hs[l]? = some (.sl i) → k = l
  | [], k, l, i, _, h, _ => by simp at h
  | h0 :: hs, 0, 0, i, _, _, _ => rfl
  | .sl j :: hs, 0, l + 1, i, n, h, h' => by
    simp at h; subst h
    exact absurd (mem_sls (by simpa using h')) (List.nodup_cons.mp n).1
  | .sl j :: hs, k + 1, 0, i, n, h, h' => by
    simp at h'; subst h'
    exact absurd (mem_sls (by simpa using h)) (List.nodup_cons.mp n).1
  | .dt x :: hs, 0, l + 1, i, n, h, h' => by simp at h
  | .dt x :: hs, k + 1, 0, i, n, h, h' => by simp at h'
  | .sl j :: hs, k + 1, l + 1, i, n, h, h' => congrArg (· + 1) (sls_inj (hs := hs) (i := i) (List.nodup_cons.mp n).2 (by simpa using h) (by simpa using h'))
  | .dt x :: hs, k + 1, l + 1, i, n, h, h' => congrArg (· + 1) (sls_inj (hs := hs) (i := i) n (by simpa using h) (by simpa using h'))
theorem back_len : ∀ {hs : List Hd} {ss : List S} {ρ : En}, (backS hs ss ρ).length = ρ.length
  | [], _, _ => by simp [backS]
  | .sl i :: hs, [], _ => by simp [backS]
  | .dt x :: hs, [], _ => by simp [backS]
  | .sl i :: hs, s :: ss, ρ => by simp only [backS]; rw [back_len, List.length_set]
  | .dt x :: hs, _ :: ss, ρ => by simp only [backS]; exact back_len
/-- a slot behind a call: untouched, or what came back -/
theorem back_get : ∀ {hs : List Hd} {ss : List S} {ρ : En} {j : Nat} {s : S}, ss.length = hs.length → (sls hs).Nodup → (backS hs ss ρ)[j]? = some s → (j ∉ sls hs ∧ ρ[j]? = some s) ∨ ∃ k : Nat, hs[k]? = some (Hd.sl j) ∧ ss[k]? = some s
  | [], [], ρ, j, s, _, _, h => .inl ⟨by simp [sls], h⟩
  | .sl i :: hs, t :: ss, ρ, j, s, l, n, h => by
    simp only [backS] at h
    rcases back_get (hs := hs) (by simpa using l) (List.nodup_cons.mp n).2 h with ⟨h1, h2⟩ | ⟨k, h1, h2⟩
    · by_cases c : j = i
      · subst c
        rw [List.getElem?_set] at h2
        by_cases q : j < ρ.length
        · simp [q] at h2; subst h2; exact .inr ⟨0, rfl, rfl⟩
        · simp [q] at h2
      · rw [List.getElem?_set] at h2
        simp [Ne.symm c] at h2
        refine .inl ⟨fun z => ?_, h2⟩
        rcases List.mem_cons.mp z with z | z
        · exact c z
        · exact h1 z
    · exact .inr ⟨k + 1, by simpa using h1, by simpa using h2⟩
  | .dt x :: hs, t :: ss, ρ, j, s, l, n, h => by
    simp only [backS] at h
    rcases back_get (hs := hs) (by simpa using l) n h with ⟨h1, h2⟩ | ⟨k, h1, h2⟩
    · exact .inl ⟨h1, h2⟩
    · exact .inr ⟨k + 1, by simpa using h1, by simpa using h2⟩
  | [], _ :: _, _, _, _, l, _, _ => by simp at l
  | _ :: _, [], _, _, _, l, _, _ => by simp at l
theorem args_get : ∀ {hs : List Hd} {vs : List V} {ss : List S}, HdsA Z.K F σ vs hs → argsS ρ hs = some ss → ss.length = hs.length ∧ vs.length = hs.length ∧ ∀ (k : Nat) s, ss[k]? = some s → ∃ h v, hs[k]? = some h ∧ vs[k]? = some v ∧ HdA Z.K F σ v h ∧ argS ρ h = some s
  | [], [], ss, _, e => by cases e; exact ⟨rfl, rfl, fun k s h => by simp at h⟩
  | [], _ :: _, _, q, _ => q.elim
  | _ :: _, [], _, q, _ => q.elim
  | h :: hs, v :: vs, ss, q, e => by
    obtain ⟨s0, e1, e⟩ := Option.bind_eq_some_iff.mp e
    obtain ⟨ss0, e2, rfl⟩ := Option.map_eq_some_iff.mp e
    obtain ⟨l1, l2, g⟩ := args_get q.2 e2
    refine ⟨by simp [l1], by simp [l2], fun k s hk => ?_⟩
    cases k with
    | zero => simp at hk; subst hk; exact ⟨h, v, rfl, rfl, q.1, e1⟩
    | succ k => obtain ⟨h', v', a1, a2, a3, a4⟩ := g k s (by simpa using hk); exact ⟨h', v', by simpa using a1, by simpa using a2, a3, a4⟩
theorem argS_own {h : Hd} {s : S} (e : argS ρ h = some s) (o : s.own = true) : ∃ i, h = .sl i ∧ ρ[i]? = some s := by
  cases h with
  | dt x => cases e; cases o
  | sl i =>
    simp only [argS] at e
    cases q : ρ[i]? with
    | none => rw [q] at e; cases e
    | some t => rw [q] at e; obtain ⟨_, _, rfl⟩ := Option.map_eq_some_iff.mp e; exact ⟨i, rfl, q⟩
end
section
variable {Z : Zt} {W : WX} {F H F' H' : Hp} {σ : L2.St} {ρ : En} {hs : List Hd} {vs : List V} {ss ss' : List S}
theorem vsome {k : Nat} {v : V} : (vs.map some)[k]? = some (some v) ↔ vs[k]? = some v := by
  rw [List.getElem?_map]
  cases vs[k]? <;> simp
/-- the callee's own are the caller's that are handed on -/
theorem call_own (ha : HdsA Z.K F σ vs hs) (hr : argsS ρ hs = some ss) {k : Nat} {a : Addr} (h : OwnI (vs.map some) ss k a) : ∃ i, hs[k]? = some (.sl i) ∧ OwnI σ ρ i a := by
  obtain ⟨h1, s, h2, h3⟩ := h
  obtain ⟨_, _, g⟩ := args_get ha hr
  obtain ⟨hd, v, a1, a2, a3, a4⟩ := g k s h2
  obtain ⟨i, rfl, a5⟩ := argS_own a4 h3
  rw [vsome, a2] at h1
  cases h1
  exact ⟨i, a1, a3, s, a5, h3⟩
theorem call_ea (e : EA Z F H σ ρ) (ha : HdsA Z.K F σ vs hs) (hr : argsS ρ hs = some ss) (nd : (sls hs).Nodup) : EA ⟨Z.K, [], none⟩ F H (vs.map some) ss := by
  obtain ⟨l1, l2, g⟩ := args_get ha hr
  refine ⟨e.sub, by rw [List.length_map, l1, l2], fun k s hk => ?_, fun k l a h1 h2 => ?_⟩
  · obtain ⟨hd, v, a1, a2, a3, a4⟩ := g k s hk
    rw [vsome.mpr a2]
    cases hd with
    | dt x => cases a4; exact ⟨v, rfl, a3⟩
    | sl i =>
      simp only [argS] at a4
      cases q : ρ[i]? with
      | none => rw [q] at a4; cases a4
      | some t =>
        rw [q] at a4
        obtain ⟨x, ex, rfl⟩ := Option.map_eq_some_iff.mp a4
        have := e.sl i t q
        rw [show σ[i]? = some (some v) from a3] at this
        cases t with
        | un => cases ex
        | X a b => cases ex
        | d y => exact this
        | L xs => exact this
        | M ks xs => exact this
        | T ks xs => exact this
        | O c xs => exact this
  · obtain ⟨i, e1, o1⟩ := call_own ha hr h1
    obtain ⟨j, e2, o2⟩ := call_own ha hr h2
    have := e.dis i j a o1 o2
    subst this
    exact sls_inj nd e1 e2
theorem call_back (e : EA Z F H σ ρ) (ha : HdsA Z.K F σ vs hs) (hr : argsS ρ hs = some ss) (nd : (sls hs).Nodup) (st : Stp ⟨Z.K, [], none⟩ F H (vs.map some) ss F' H' (vs.map some) ss') (e' : EA ⟨Z.K, [], none⟩ F' H' (vs.map some) ss') :
    Stp Z F H σ ρ F' H' σ (backS hs ss' ρ) ∧ EA Z F' H' σ (backS hs ss' ρ) := by
  obtain ⟨l1, l2, g⟩ := args_get ha hr
  have l3 : ss'.length = hs.length := by rw [e'.len, List.length_map, l2]
  have ori : ∀ b, Ori H (vs.map some) ss b → Ori H σ ρ b := fun b h => by
    rcases h with ⟨k, h⟩ | h
    · obtain ⟨i, _, o⟩ := call_own ha hr h; exact .inl ⟨i, o⟩
    · exact .inr h
  -- an own slot behind the call
  have key : ∀ j a, OwnI σ (backS hs ss' ρ) j a → (j ∉ sls hs ∧ OwnI σ ρ j a) ∨ ∃ k, hs[k]? = some (.sl j) ∧ OwnI (vs.map some) ss' k a := by
    intro j a ⟨h1, s, h2, h3⟩
    rcases back_get l3 nd h2 with ⟨q1, q2⟩ | ⟨k, q1, q2⟩
    · exact .inl ⟨q1, h1, s, q2, h3⟩
    · refine .inr ⟨k, q1, ?_, s, q2, h3⟩
      have hk : k < hs.length := (List.getElem?_eq_some_iff.mp q1).1
      obtain ⟨hd, v, a1, a2, a3, a4⟩ := g k ss[k] (List.getElem?_eq_getElem (by omega))
      rw [q1] at a1; cases a1
      have a3' : σ[j]? = some (some v) := a3
      rw [h1] at a3'
      cases a3'
      exact vsome.mpr a2
  have stay : ∀ j a, j ∉ sls hs → OwnI σ ρ j a → ∀ k, ¬ OwnI (vs.map some) ss k a := fun j a hj o k z => by
    obtain ⟨i, q1, q2⟩ := call_own ha hr z
    have := e.dis i j a q2 o
    subst this
    exact hj (mem_sls q1)
  refine ⟨⟨st.same, fun b h => (st.new b h).imp id (ori b), fun b o h n => st.keep b o h fun k z => ?_, fun j b h => ?_, fun _ _ _ => rfl, Nat.le_refl _⟩, ⟨e'.sub, by rw [back_len]; exact e.len, fun j s h => ?_, fun i j a h1 h2 => ?_⟩⟩
  · obtain ⟨i, _, o⟩ := call_own ha hr z; exact n i o
  · rcases key j b h with ⟨_, o⟩ | ⟨k, _, o⟩
    · exact .inl ⟨j, o⟩
    · exact ori b (st.own k b o)
  · rcases back_get l3 nd h with ⟨q1, q2⟩ | ⟨k, q1, q2⟩
    · refine (e.sl j s q2).mono st.same fun a u ho so hu hf => ?_
      have oi : OwnI σ ρ j a := ⟨join_some ho, s, q2, so⟩
      refine ⟨st.keep a u hu (stay j a q1 oi), ?_⟩
      cases q : F' a with
      | none => rfl
      | some z =>
        rcases st.new a (by rw [q]; exact fun z => nomatch z) with y | ⟨k, y⟩ | y
        · exact absurd hf y
        · exact absurd y (stay j a q1 oi k)
        · rw [hu] at y; cases y
    · have hk : k < hs.length := (List.getElem?_eq_some_iff.mp q1).1
      obtain ⟨hd, v, a1, a2, a3, a4⟩ := g k ss[k] (List.getElem?_eq_getElem (by omega))
      rw [q1] at a1; cases a1
      have a3' : σ[j]? = some (some v) := a3
      have := e'.sl k s q2
      rw [vsome.mpr a2] at this
      rw [a3']
      cases s with
      | X c xs => obtain ⟨_, _, _, _, _, _, _, _, q, _⟩ := this; cases q
      | un => trivial
      | d y => exact this
      | L xs => exact this
      | M ks xs => exact this
      | T ks xs => exact this
      | O c xs => exact this
  · rcases key i a h1 with ⟨n1, o1⟩ | ⟨k, q1, o1⟩
    · rcases key j a h2 with ⟨n2, o2⟩ | ⟨l, q2, o2⟩
      · exact e.dis i j a o1 o2
      · rcases st.own l a o2 with ⟨k', y⟩ | y
        · exact absurd y (stay i a n1 o1 k')
        · obtain ⟨_, u, hu⟩ := e.ownF o1; rw [hu] at y; cases y
    · rcases key j a h2 with ⟨n2, o2⟩ | ⟨l, q2, o2⟩
      · rcases st.own k a o1 with ⟨k', y⟩ | y
        · exact absurd y (stay j a n2 o2 k')
        · obtain ⟨_, u, hu⟩ := e.ownF o2; rw [hu] at y; cases y
      · have := e'.dis k l a o1 o2
        subst this
        rw [q1] at q2; cases q2; rfl
theorem call_ra (e : EA Z F H σ ρ) (ha : HdsA Z.K F σ vs hs) (hr : argsS ρ hs = some ss) (nd : (sls hs).Nodup) (e' : EA ⟨Z.K, [], none⟩ F' H' (vs.map some) ss') (st : Stp ⟨Z.K, [], none⟩ F H (vs.map some) ss F' H' (vs.map some) ss') {v : V} {s : S}
    (sl : SlA Z F' H' (some v) s) (fr : s.own = true → ∀ p, v = .ref p → Ori H (vs.map some) ss p ∧ ∀ i, ¬ OwnI (vs.map some) ss' i p) : RA Z H σ ρ F' H' (backS hs ss' ρ) v s := by
  obtain ⟨l1, l2, g⟩ := args_get ha hr
  have l3 : ss'.length = hs.length := by rw [e'.len, List.length_map, l2]
  refine ⟨sl, fun so p hp => ⟨?_, fun j ⟨h1, t, h2, h3⟩ => ?_⟩⟩
  · rcases (fr so p hp).1 with ⟨k, h⟩ | h
    · obtain ⟨i, _, o⟩ := call_own ha hr h; exact .inl ⟨i, o⟩
    · exact .inr h
  · rcases back_get l3 nd h2 with ⟨q1, q2⟩ | ⟨k, q1, q2⟩
    · have oi : OwnI σ ρ j p := ⟨h1, t, q2, h3⟩
      rcases (fr so p hp).1 with ⟨k, h⟩ | h
      · obtain ⟨i, w1, w2⟩ := call_own ha hr h
        have := e.dis i j p w2 oi
        subst this
        exact q1 (mem_sls w1)
      · obtain ⟨_, u, hu⟩ := e.ownF oi; rw [hu] at h; cases h
    · refine (fr so p hp).2 k ⟨?_, t, q2, h3⟩
      have hk : k < hs.length := (List.getElem?_eq_some_iff.mp q1).1
      obtain ⟨hd, v', a1, a2, a3, a4⟩ := g k ss[k] (List.getElem?_eq_getElem (by omega))
      rw [q1] at a1; cases a1
      have a3' : σ[j]? = some (some v') := a3
      rw [h1] at a3'; cases a3'
      exact vsome.mpr a2
end

/-! ### a def as a function of data -/
def fin : List S → En → List S
  | s :: ss, r :: rs => (if s.own = true then r else s) :: fin ss rs
  | ss, _ => ss
def okB (bp : List Nat) : Nat → List S → Bool
  | _, [] => true
  | k, s :: ss => (!s.own || decide (k ∈ bp)) && okB bp (k + 1) ss
def noX : List S → Bool
  | [] => true
  | .X _ _ :: _ => false
  | _ :: ss => noX ss
def endF (ss : List S) (r : Ctl) : Rs S := match r with
  | .ret s ρ => .ok s (fin ss ρ)
  | .nx ρ => .ok (.d .non) (fin ss ρ)
  | .exc c xs ρ => .exc c xs (fin ss ρ)
  | _ => .stuck
@[simp] theorem endF_ret (ss : List S) (s : S) (ρ : En) : endF ss (.ret s ρ) = .ok s (fin ss ρ) := rfl
@[simp] theorem endF_nx (ss : List S) (ρ : En) : endF ss (.nx ρ) = .ok (.d .non) (fin ss ρ) := rfl
@[simp] theorem endF_exc (ss : List S) (c : Nat) (xs : List D) (ρ : En) : endF ss (.exc c xs ρ) = .exc c xs (fin ss ρ) := rfl
@[simp] theorem endF_stuck (ss : List S) : endF ss .stuck = .stuck := rfl
def fnM (N : Nat) (bp : List Nat) (b : En → Ctl) : List S → Rs S := fun ss => if okB bp 0 ss = true then endF ss (b (ss ++ List.replicate (N - ss.length) .un)) else .stuck
section
variable {Z : Zt} {W : WX} {F H F1 H1 F' H' : Hp} {σ σ' σ1 : L2.St} {ρ ρ' ρ1 : En} {E : Ends}
theorem okB_get {bp : List Nat} : ∀ {ss : List S} {k i : Nat} {s : S}, okB bp k ss = true → ss[i]? = some s → s.own = true → k + i ∈ bp
  | [], _, _, _, _, h, _ => by simp at h
  | t :: ss, k, 0, s, ok, h, o => by
    simp at h; subst h
    simp only [okB, Bool.and_eq_true, o, Bool.not_true, Bool.false_or, decide_eq_true_eq] at ok
    exact ok.1
  | t :: ss, k, i + 1, s, ok, h, o => by
    simp only [okB, Bool.and_eq_true] at ok
    have := okB_get (i := i) ok.2 (by simpa using h) o
    rwa [show k + 1 + i = k + (i + 1) by omega] at this
theorem fin_len : ∀ {ss : List S} {ρ : En}, (fin ss ρ).length = ss.length
  | [], _ => by simp [fin]
  | s :: ss, [] => by simp [fin]
  | s :: ss, r :: rs => by simp [fin, fin_len]
theorem fin_get : ∀ {ss : List S} {ρ : En} {i : Nat} {s : S}, ss.length ≤ ρ.length → (fin ss ρ)[i]? = some s → ∃ t, ss[i]? = some t ∧ ((t.own = true ∧ ρ[i]? = some s) ∨ (t.own = false ∧ s = t))
  | [], _, _, _, _, h => by simp [fin] at h
  | t :: ss, [], _, _, l, _ => by simp at l
  | t :: ss, r :: rs, 0, s, l, h => by
    simp [fin] at h
    refine ⟨t, rfl, ?_⟩
    cases o : t.own with
    | true => rw [o] at h; simp at h; exact .inl ⟨rfl, by simp [h]⟩
    | false => rw [o] at h; simp at h; exact .inr ⟨rfl, h.symm⟩
  | t :: ss, r :: rs, i + 1, s, l, h => by
    obtain ⟨u, h1, h2⟩ := fin_get (ss := ss) (ρ := rs) (i := i) (by simpa using l) (by simpa [fin] using h)
    exact ⟨u, by simpa using h1, by simpa using h2⟩
theorem start_get {N : List Str} {vs : List V} {i : Nat} (h : i < vs.length) : (L2.start N vs)[i]? = (vs.map some)[i]? := by
  unfold L2.start
  rw [List.getElem?_append_left (by rw [List.length_map]; exact h)]
theorem un_get {ss : List S} {n i : Nat} {s : S} (h : (ss ++ List.replicate n .un)[i]? = some s) : ss[i]? = some s ∨ s = .un := by
  by_cases c : i < ss.length
  · rw [List.getElem?_append_left c] at h; exact .inl h
  · rw [List.getElem?_append_right (by omega)] at h
    obtain ⟨_, e⟩ := List.getElem?_eq_some_iff.mp h
    rw [List.getElem_replicate] at e
    exact .inr e.symm
theorem fn_own {N : List Str} {vs : List V} {ss : List S} {n : Nat} (l : vs.length = ss.length) {i : Nat} {a : Addr} : OwnI (L2.start N vs) (ss ++ List.replicate n .un) i a ↔ OwnI (vs.map some) ss i a := by
  constructor
  · rintro ⟨h1, s, h2, h3⟩
    rcases un_get h2 with q | q
    · have := (List.getElem?_eq_some_iff.mp q).1
      rw [start_get (by omega)] at h1
      exact ⟨h1, s, q, h3⟩
    · subst q; cases h3
  · rintro ⟨h1, s, h2, h3⟩
    have := (List.getElem?_eq_some_iff.mp h2).1
    exact ⟨by rw [start_get (by omega)]; exact h1, s, by rw [List.getElem?_append_left this]; exact h2, h3⟩
/-- the body's beginning -/
theorem fn_ea {K : Kt} {bp : List Nat} {N : List Str} {vs : List V} {ss : List S} (hN : vs.length ≤ N.length) (e : EA ⟨K, [], none⟩ F H (vs.map some) ss) : EA ⟨K, bp, none⟩ F H (L2.start N vs) (ss ++ List.replicate (N.length - ss.length) .un) := by
  have l : vs.length = ss.length := by have := e.len; rw [List.length_map] at this; exact this.symm
  refine ⟨e.sub, ?_, fun i s h => ?_, fun i j a h1 h2 => e.dis i j a ((fn_own l).mp h1) ((fn_own l).mp h2)⟩
  · unfold L2.start
    simp only [List.length_append, List.length_replicate, List.length_map, l]
  · rcases un_get h with q | q
    · have hi := (List.getElem?_eq_some_iff.mp q).1
      rw [start_get (by omega)]
      have := e.sl i s q
      cases s with
      | X c xs => exact this
      | un => trivial
      | d y => exact this
      | L xs => exact this
      | M ks xs => exact this
      | T ks xs => exact this
      | O c xs => exact this
    · subst q; trivial
/-- the body's end, seen by who called -/
theorem fn_end {K : Kt} {bp : List Nat} {N : List Str} {vs : List V} {ss : List S} (e : EA ⟨K, [], none⟩ F H (vs.map some) ss) (ok : okB bp 0 ss = true)
    (st : Stp ⟨K, bp, none⟩ F H (L2.start N vs) (ss ++ List.replicate (N.length - ss.length) .un) F' H' σ' ρ') (e' : EA ⟨K, bp, none⟩ F' H' σ' ρ') :
    Stp ⟨K, [], none⟩ F H (vs.map some) ss F' H' (vs.map some) (fin ss ρ') ∧ EA ⟨K, [], none⟩ F' H' (vs.map some) (fin ss ρ') ∧ ∀ i a, OwnI (vs.map some) (fin ss ρ') i a → OwnI σ' ρ' i a := by
  have l : vs.length = ss.length := by have := e.len; rw [List.length_map] at this; exact this.symm
  have l0 : ss.length ≤ (L2.start N vs).length := by
    unfold L2.start
    simp only [List.length_append, List.length_map, l]
    omega
  have l1 : ss.length ≤ ρ'.length := by rw [e'.len]; exact Nat.le_trans l0 st.len
  have par : ∀ (i : Nat) (t : S), ss[i]? = some t → t.own = true → σ'[i]? = (vs.map some)[i]? := fun i t h o => by
    have hi := (List.getElem?_eq_some_iff.mp h).1
    have := okB_get ok h o
    rw [Nat.zero_add] at this
    rw [st.par i this (by omega), start_get (by omega)]
  have ori : ∀ b, Ori H (L2.start N vs) (ss ++ List.replicate (N.length - ss.length) .un) b → Ori H (vs.map some) ss b := fun b h => by
    rcases h with ⟨i, h⟩ | h
    · exact .inl ⟨i, (fn_own l).mp h⟩
    · exact .inr h
  have own : ∀ i a, OwnI (vs.map some) (fin ss ρ') i a → OwnI σ' ρ' i a := fun i a ⟨h1, s, h2, h3⟩ => by
    obtain ⟨t, q1, q2 | q2⟩ := fin_get l1 h2
    · exact ⟨by rw [par i t q1 q2.1]; exact h1, s, q2.2, h3⟩
    · rw [q2.2, q2.1] at h3; cases h3
  refine ⟨⟨st.same, fun b h => (st.new b h).imp id (ori b), fun b o h n => st.keep b o h fun i z => n i ((fn_own l).mp z), fun i b h => ori b (st.own i b (own i b h)), fun _ _ _ => rfl, Nat.le_refl _⟩, ⟨e'.sub, by rw [fin_len]; exact e.len, fun i s h => ?_, fun i j a h1 h2 => e'.dis i j a (own i a h1) (own j a h2)⟩, own⟩
  obtain ⟨t, q1, q2 | q2⟩ := fin_get l1 h
  · have := e'.sl i s q2.2
    rw [par i t q1 q2.1] at this
    cases s with
    | X c xs => exact this
    | un => trivial
    | d y => exact this
    | L xs => exact this
    | M ks xs => exact this
    | T ks xs => exact this
    | O c xs => exact this
  · obtain ⟨q3, rfl⟩ := q2
    refine (e.sl i s q1).mono st.same fun a u ho so hu hf => ?_
    rw [q3] at so; cases so
/-- a def's promise from its body -/
theorem fn_body {K : Kt} {bp : List Nat} {N : List Str} {n : Nat} {b : En → Ctl} {vs : List V} {Q : VK} {E : XK} (hN : n ≤ N.length) (h : spD K n (fnM N.length bp b) vs H Q E) :
    dS ⟨K, bp, none⟩ (fun cls dd _ H' => E cls dd H') b { nx := fun _ H' => Q .non H', rt := Q } (L2.start N vs) H := by
  obtain ⟨hl, F, ss, e, h⟩ := h
  have l : vs.length = ss.length := by have := e.len; rw [List.length_map] at this; exact this.symm
  unfold fnM at h
  by_cases ok : okB bp 0 ss = true
  · rw [if_pos ok] at h
    refine ⟨F, _, fn_ea (by omega) e, ?_⟩
    revert h
    generalize hr : b (ss ++ List.replicate (N.length - ss.length) .un) = r
    intro h
    cases r with
    | stuck => exact h
    | brk => exact h.elim
    | cnt => exact h.elim
    | nx ρ1 =>
      intro σ' F' H' st e'
      obtain ⟨s1, e1, o1⟩ := fn_end e ok st e'
      exact h F' H' s1 e1 .non ⟨⟨.non, rfl, DA.non⟩, fun z => nomatch z⟩
    | ret s ρ1 =>
      intro v σ' F' H' st e' sl fr
      obtain ⟨s1, e1, o1⟩ := fn_end e ok st e'
      refine h F' H' s1 e1 v ⟨?_, fun so p hp => ⟨?_, fun i z => (fr so p hp).2 i (o1 i p z)⟩⟩
      · cases s with
        | X c xs => exact sl
        | un => trivial
        | d y => exact sl
        | L xs => exact sl
        | M ks xs => exact sl
        | T ks xs => exact sl
        | O c xs => exact sl
      · rcases (fr so p hp).1 with ⟨i, q⟩ | q
        · exact .inl ⟨i, (fn_own l).mp q⟩
        · exact .inr q
    | exc c xs ρ1 =>
      intro cls dd σ' F' H' st e' x
      obtain ⟨s1, e1, o1⟩ := fn_end e ok st e'
      exact h F' H' cls dd s1 e1 x
  · rw [if_neg ok] at h; exact h.elim
/-! ### calls of defs -/
theorem rsB_sat {hs : List Hd} {r : Rs S} {post : S → En → Hp → Hp → Prop} (h : Sat Z W F H σ ρ (rsB hs ρ r) post) {vs : List V} {ss : List S} (e : EA Z F H σ ρ) (ha : HdsA Z.K F σ vs hs) (hr : argsS ρ hs = some ss) (nd : (sls hs).Nodup) :
    Sat ⟨Z.K, [], none⟩ (fun cls dd _ H' => W cls dd σ H') F H (vs.map some) ss r fun s ss' F' H' => EA Z F' H' σ (backS hs ss' ρ) ∧ Stp Z F H σ ρ F' H' σ (backS hs ss' ρ) ∧ EA ⟨Z.K, [], none⟩ F' H' (vs.map some) ss' ∧ Stp ⟨Z.K, [], none⟩ F H (vs.map some) ss F' H' (vs.map some) ss' ∧ post s (backS hs ss' ρ) F' H' := by
  cases r with
  | stuck => exact h
  | exc c xs ss' => exact fun F' H' cls dd st e' x => let ⟨a, b⟩ := call_back e ha hr nd st e'; h F' H' cls dd a b x
  | ok s ss' => exact fun F' H' st e' => let ⟨a, b⟩ := call_back e ha hr nd st e'; ⟨b, a, e', st, h F' H' a b⟩
theorem slZ {Z' : Zt} {o : Option V} {s : S} (hk : Z'.K = Z.K) (hx : Z.xa = none ∨ ∀ c xs, s ≠ .X c xs) (h : SlA Z F H o s) : SlA Z' F H o s := by
  cases s with
  | X c xs =>
    rcases hx with hx | hx
    · obtain ⟨_, _, _, _, _, _, _, _, q, _⟩ := h; rw [hx] at q; cases q
    · exact absurd rfl (hx c xs)
  | un => trivial
  | d y => unfold SlA at h ⊢; rw [hk]; exact h
  | L xs => unfold SlA at h ⊢; rw [hk]; exact h
  | M ks xs => unfold SlA at h ⊢; rw [hk]; exact h
  | T ks xs => unfold SlA at h ⊢; rw [hk]; exact h
  | O c xs => unfold SlA at h ⊢; rw [hk]; exact h
theorem call_in {n : Nat} {m : List S → Rs S} {g : En → Rs (List Hd)} : ∀ σ H Q, dF Z W (callf n m g) σ H Q → tCallS (spD Z.K n m) (WE W) (dA Z W g) σ H Q := fun σ H Q ⟨F, ρ, ea, q⟩ => ⟨F, ρ, ea, q.bind.mono fun hs ρ1 F1 H1 st e1 q vs hv => by
  obtain ⟨ss, es, q⟩ := q.opt
  by_cases c : hs.length = n ∧ (sls hs).Nodup
  · rw [if_pos c] at q
    obtain ⟨l1, l2, _⟩ := args_get hv es
    refine ⟨by rw [l2]; exact c.1, F1, ss, call_ea e1 hv es c.2, ?_⟩
    refine (rsB_sat q e1 hv es c.2).mono fun s ss' F' H' st2 e2 ⟨a1, a2, a3, a4, k⟩ v ra => ?_
    have r2 := call_ra e1 hv es c.2 e2 st2 (slZ (Z := ⟨Z.K, [], none⟩) rfl (.inl rfl) ra.1) ra.2
    exact k v ⟨r2.1, fun so p hp => ⟨Ori.back st (r2.2 so p hp).1, (r2.2 so p hp).2⟩⟩
  · rw [if_neg c] at q; exact q.elim⟩
theorem d_call {X : Cx} {CT : CXT} {k j n : Nat} {x : Str} {m : List S → Rs S} {g : En → Rs (List Hd)} {e : Expr} {es : List Expr} {p pos : Pos} (c : Cal X.prog X.w X.K X.mg X.base CT k x (spD Z.K n m)) (hr : Room j X.A) (hk : k ≤ j) (hx : ∀ σ, PassesAt CT X σ (WE W σ)) (hg : Gl X x) (ha : DR X Z W (e :: es) g)
    (hdb : NotDbg x := by decide) (he : StarOk X e es := by rfl) (hpl : NoStars X pos es := by rfl) :
    DF X Z W (.Call (.Name x p) (e :: es) [] pos) (callf n m g) := ⟨pe_imp (pe_c c hr hk hx hg ha.pa hdb he hpl) call_in⟩
/-- o.m(..), o an object of the class c -/
def clsOf (ρ : En) (a : Hd) : Option Nat := match a.res ρ with
  | some (.obj c _) => some c
  | _ => none
def callm (c n : Nat) (m : List S → Rs S) (h : En → Rs Hd) (g : En → Rs (List Hd)) : En → Rs S := fun ρ => (h ρ).bind fun a ρ0 => if clsOf ρ0 a = some c then (g ρ0).bind fun hs ρ1 => Rs.opt (argsS ρ1 (a :: hs)) fun ss => if hs.length + 1 = n ∧ (sls (a :: hs)).Nodup then rsB (a :: hs) ρ1 (m ss) else .stuck else .stuck
theorem cls_at {a : Hd} {c : Nat} {v : V} (e : EA Z F H σ ρ) (hv : HdA Z.K F σ v a) (h : clsOf ρ a = some c) : ∃ nm fs x dx gs, Z.K.ct[c]? = some (nm, fs) ∧ v = .ref x ∧ H x = some (.ins (He.ga Z.K.K nm) dx (fs.zip gs)) := by
  unfold clsOf at h
  split at h
  · rename_i c' xs hq
    cases h
    obtain ⟨nm, fs, x, dx, gs, h1, h2, h3, _⟩ := hv.pk e hq
    exact ⟨nm, fs, x, dx, gs, h1, h2, h3⟩
  · cases h
theorem zip_lk {m : Str} : ∀ {fs : List Str} {gs : List V}, m ∉ fs → (fs.zip gs).lookup m = none
  | [], _, _ => by simp
  | _ :: _, [], _ => by simp
  | f :: fs, g :: gs, h => by
    have h1 : m ≠ f := fun z => h (z ▸ List.mem_cons_self)
    have h2 : m ∉ fs := fun z => h (List.mem_cons_of_mem _ z)
    have hb : (m == f) = false := beq_eq_false_iff_ne.mpr h1
    rw [List.zip_cons_cons, List.lookup_cons, hb]
    exact zip_lk h2
theorem callm_in {c n : Nat} {nm mn : Str} {fs : List Str} {m : List S → Rs S} {h : En → Rs Hd} {g : En → Rs (List Hd)} (hc : Z.K.ct[c]? = some (nm, fs)) (hm : mn ∉ fs) : ∀ σ H Q, dF Z W (callm c n m h g) σ H Q → tMethS (He.ga Z.K.K nm) mn (spD Z.K n m) (WE W) (dO Z W h) (dA Z W g) σ H Q := fun σ H Q ⟨F, ρ, ea, q⟩ => ⟨F, ρ, ea, q.bind.mono fun a ρ0 F0 H0 st0 e0 q v hv0 => by
  by_cases c0 : clsOf ρ0 a = some c
  · rw [if_pos c0] at q
    obtain ⟨nm', fs', x, dx, gs, k1, rfl, k3⟩ := cls_at e0 hv0 c0
    rw [hc] at k1; cases k1
    refine ⟨x, dx, _, rfl, k3, zip_lk hm, F0, ρ0, e0, q.bind.mono fun hs ρ1 F1 H1 st e1 q vs hv => ?_⟩
    obtain ⟨ss, es, q⟩ := q.opt
    by_cases cc : hs.length + 1 = n ∧ (sls (a :: hs)).Nodup
    · rw [if_pos cc] at q
      have hv' : HdsA Z.K F1 σ (V.ref x :: vs) (a :: hs) := ⟨hv0.mono st.same, hv⟩
      obtain ⟨l1, l2, _⟩ := args_get hv' es
      refine ⟨by rw [l2]; exact cc.1, F1, ss, call_ea e1 hv' es cc.2, ?_⟩
      refine (rsB_sat q e1 hv' es cc.2).mono fun s ss' F' H' st2 e2 ⟨a1, a2, a3, a4, k⟩ v ra => ?_
      have r2 := call_ra e1 hv' es cc.2 e2 st2 (slZ (Z := ⟨Z.K, [], none⟩) rfl (.inl rfl) ra.1) ra.2
      exact k v ⟨r2.1, fun so p hp => ⟨Ori.back (st0.trans st) (r2.2 so p hp).1, (r2.2 so p hp).2⟩⟩
    · rw [if_neg cc] at q; exact q.elim
  · rw [if_neg c0] at q; exact q.elim⟩
theorem d_meth {X : Cx} {CT : CXT} {k j c n : Nat} {nm mn : Str} {fs : List Str} {m : List S → Rs S} {h : En → Rs Hd} {g : En → Rs (List Hd)} {o e : Expr} {es : List Expr} {pos apos : Pos} {pl : Sem Bool} (hc : Z.K.ct[c]? = some (nm, fs)) (hm : mn ∉ fs)
    (cm : Met X.prog X.w X.K X.mg X.base CT k (He.ga Z.K.K nm) mn (spD Z.K n m)) (hr : Room j X.A) (hk : k ≤ j) (hx : ∀ σ, PassesAt CT X σ (WE W σ)) (ho : DO X Z W o h) (ha : DR X Z W (e :: es) g)
    (hst : StarOk X e es := by rfl) (hpl : NoStars X pos es := by rfl)
    (ht : CallsSo X o mn (e :: es) apos pos pl := by rfl) :
    DF X Z W (.Call (.Attribute o mn apos) (e :: es) [] pos) (callm c n m h g) := ⟨pe_imp (pe_m (pl := pl) cm hr hk hx ho.pe ha.pa hst hpl ht) (callm_in hc hm)⟩
theorem d_meth0 {X : Cx} {CT : CXT} {k j c n : Nat} {nm mn : Str} {fs : List Str} {m : List S → Rs S} {h : En → Rs Hd} {o : Expr} {pos apos : Pos} {pl : Sem Bool} (hc : Z.K.ct[c]? = some (nm, fs)) (hm : mn ∉ fs)
    (cm : Met X.prog X.w X.K X.mg X.base CT k (He.ga Z.K.K nm) mn (spD Z.K n m)) (hr : Room j X.A) (hk : k ≤ j) (hx : ∀ σ, PassesAt CT X σ (WE W σ)) (ho : DO X Z W o h)
    (ht : CallsSo X o mn [] apos pos pl := by rfl) :
    DF X Z W (.Call (.Attribute o mn apos) [] [] pos) (callm c n m h ar0) := ⟨pe_imp (pe_m0 (pl := pl) cm hr hk hx ho.pe ht) fun σ H Q q => by
  obtain ⟨F, ρ, ea, q⟩ := callm_in (W := W) hc hm σ H Q q
  refine ⟨F, ρ, ea, q.mono fun a ρ0 F0 H0 st e0 p v hv => ?_⟩
  obtain ⟨x, dx, gs, r1, r2, r3, F1, ρ1, e1, r4⟩ := p v hv
  exact ⟨x, dx, gs, r1, r2, r3, r4.here e1 [] trivial⟩⟩
/-- one class or another: by the object that the operand h is -/
def orr (h : En → Rs Hd) (c : Nat) (m m' : En → Rs S) : En → Rs S := fun ρ => match h ρ with
  | .ok a ρ0 => if clsOf ρ0 a = some c then m ρ else m' ρ
  | _ => .stuck
theorem d_orr {X : Cx} {e : Expr} {h : En → Rs Hd} {c : Nat} {m m' : En → Rs S} (h1 : DF X Z W e m) (h2 : DF X Z W e m') : DF X Z W e (orr h c m m') := ⟨pe_imp (pe_orr h1.pe h2.pe) fun σ H Q ⟨F, ρ, ea, q⟩ => by
  unfold orr at q
  split at q
  · rename_i a ρ0 _
    by_cases c0 : clsOf ρ0 a = some c
    · rw [if_pos c0] at q; exact .inl ⟨F, ρ, ea, q⟩
    · rw [if_neg c0] at q; exact .inr ⟨F, ρ, ea, q⟩
  · exact q.elim⟩
/-! ### objects made -/
def mkB (hs : List Hd) (ρ : En) (r : Rs S) : Rs S := match r with
  | .ok (.d .non) (.O c xs :: ss') => .ok (.O c xs) (backS hs ss' ρ)
  | .exc c xs (_ :: ss') => .exc c xs (backS hs ss' ρ)
  | _ => .stuck
def mkf (c n : Nat) (m : List S → Rs S) (g : En → Rs (List Hd)) : En → Rs S := fun ρ => (g ρ).bind fun hs ρ1 => Rs.opt (argsS ρ1 hs) fun ss => if hs.length + 1 = n ∧ (sls hs).Nodup then mkB hs ρ1 (m (.O c [] :: ss)) else .stuck
/-- a slot more, of a new object -/
theorem ext_ea {c : Nat} {nm : Str} {fs : List Str} {x dx : Addr} (hc : Z.K.ct[c]? = some (nm, fs)) (e : EA Z F H σ ρ) (hx : H x = none) (hd : H dx = none) (ne : dx ≠ x) :
    EA Z F (upd (upd H dx (.own x)) x (.ins (He.ga Z.K.K nm) dx [])) (σ ++ [some (.ref x)]) (ρ ++ [.O c []]) ∧ Stp Z F H σ ρ F (upd (upd H dx (.own x)) x (.ins (He.ga Z.K.K nm) dx [])) (σ ++ [some (.ref x)]) (ρ ++ [.O c []]) := by
  have sm : Same H (upd (upd H dx (.own x)) x (.ins (He.ga Z.K.K nm) dx [])) := fun b o h => by
    rw [upd_ne (ne_of_none h hx), upd_ne (ne_of_none h hd)]; exact h
  have own : ∀ i a, OwnI (σ ++ [some (.ref x)]) (ρ ++ [.O c []]) i a → (OwnI σ ρ i a) ∨ (i = σ.length ∧ a = x) := fun i a ⟨h1, s, h2, h3⟩ => by
    by_cases q : i < σ.length
    · rw [List.getElem?_append_left q] at h1
      rw [List.getElem?_append_left (by rw [e.len]; exact q)] at h2
      exact .inl ⟨h1, s, h2, h3⟩
    · have hi := (List.getElem?_eq_some_iff.mp h1).1
      rw [List.length_append] at hi
      simp at hi
      have ei : i = σ.length := by omega
      subst ei
      rw [List.getElem?_append_right (Nat.le_refl _)] at h1
      simp at h1
      exact .inr ⟨rfl, h1.symm⟩
  refine ⟨⟨e.sub.trans sm, by simp [e.len], fun i s h => ?_, fun i j a h1 h2 => ?_⟩, ⟨Same.refl _, fun b h => .inl h, fun b o h _ => sm b o h, fun i b h => ?_, fun i _ hi => by rw [List.getElem?_append_left hi], by simp⟩⟩
  · by_cases q : i < σ.length
    · rw [List.getElem?_append_left (by rw [e.len]; exact q)] at h
      rw [List.getElem?_append_left q]
      exact (e.sl i s h).mono (Same.refl _) fun a u _ _ hu hf => ⟨sm a u hu, hf⟩
    · have hi := (List.getElem?_eq_some_iff.mp h).1
      rw [List.length_append, e.len] at hi
      simp at hi
      have ei : i = σ.length := by omega
      subst ei
      rw [← e.len, List.getElem?_append_right (Nat.le_refl _)] at h
      simp at h
      subst h
      rw [List.getElem?_append_right (Nat.le_refl _)]
      simp
      exact ⟨nm, fs, x, dx, [], hc, rfl, e.sub.free hx, by rw [List.zip_nil_right]; exact upd_same, Nat.zero_le _, DAs.nil⟩
  · rcases own i a h1 with o1 | ⟨rfl, rfl⟩
    · rcases own j a h2 with o2 | ⟨rfl, rfl⟩
      · exact e.dis i j a o1 o2
      · obtain ⟨_, u, hu⟩ := e.ownF o1; rw [hx] at hu; cases hu
    · rcases own j _ h2 with o2 | ⟨rfl, _⟩
      · obtain ⟨_, u, hu⟩ := e.ownF o2; rw [hx] at hu; cases hu
      · rfl
  · rcases own i b h with o | ⟨_, rfl⟩
    · exact .inl ⟨i, o⟩
    · exact .inr hx
theorem back_app : ∀ {hs : List Hd} {ss : List S} {ρ : En} {t : List S}, (∀ i ∈ sls hs, i < ρ.length) → backS hs ss (ρ ++ t) = backS hs ss ρ ++ t
  | [], _, _, _, _ => by simp [backS]
  | .sl i :: hs, [], _, _, _ => by simp [backS]
  | .dt x :: hs, [], _, _, _ => by simp [backS]
  | .sl i :: hs, s :: ss, ρ, t, h => by
    simp only [backS]
    rw [List.set_append_left _ _ (h i List.mem_cons_self), back_app fun j hj => by rw [List.length_set]; exact h j (List.mem_cons_of_mem _ hj)]
  | .dt x :: hs, _ :: ss, ρ, t, h => by simp only [backS]; exact back_app h
theorem args_lt : ∀ {hs : List Hd} {ss : List S}, argsS ρ hs = some ss → ∀ i ∈ sls hs, i < ρ.length
  | [], _, _, i, h => by simp [sls] at h
  | .dt x :: hs, ss, e, i, h => by
    obtain ⟨s0, e1, e⟩ := Option.bind_eq_some_iff.mp e
    obtain ⟨ss0, e2, rfl⟩ := Option.map_eq_some_iff.mp e
    exact args_lt e2 i h
  | .sl j :: hs, ss, e, i, h => by
    obtain ⟨s0, e1, e⟩ := Option.bind_eq_some_iff.mp e
    obtain ⟨ss0, e2, rfl⟩ := Option.map_eq_some_iff.mp e
    rcases List.mem_cons.mp h with rfl | h
    · simp only [argS] at e1
      cases q : ρ[i]? with
      | none => rw [q] at e1; cases e1
      | some t => exact (List.getElem?_eq_some_iff.mp q).1
    · exact args_lt e2 i h
theorem args_app {t : List S} : ∀ {hs : List Hd} {ss : List S}, argsS ρ hs = some ss → argsS (ρ ++ t) hs = some ss
  | [], _, e => e
  | h :: hs, ss, e => by
    obtain ⟨s0, e1, e⟩ := Option.bind_eq_some_iff.mp e
    obtain ⟨ss0, e2, rfl⟩ := Option.map_eq_some_iff.mp e
    have : argS (ρ ++ t) h = some s0 := by
      cases h with
      | dt x => exact e1
      | sl j =>
        simp only [argS] at e1 ⊢
        cases q : ρ[j]? with
        | none => rw [q] at e1; cases e1
        | some t0 => rw [List.getElem?_append_left (List.getElem?_eq_some_iff.mp q).1, q]; rw [q] at e1; exact e1
    show (argS (ρ ++ t) h).bind _ = _
    rw [this, Option.bind_some, args_app e2]; rfl
theorem hds_app {K : Kt} {u : List (Option V)} : ∀ {vs : List V} {hs : List Hd}, HdsA K F σ vs hs → HdsA K F (σ ++ u) vs hs
  | [], [], _ => trivial
  | v :: vs, h :: hs, q => ⟨by
      cases h with
      | dt x => exact q.1
      | sl j =>
        have := q.1
        show (σ ++ u)[j]? = some (some v)
        rw [List.getElem?_append_left (List.getElem?_eq_some_iff.mp (show σ[j]? = some (some v) from this)).1]
        exact this, hds_app q.2⟩
  | [], _ :: _, q => q.elim
  | _ :: _, [], q => q.elim
theorem mk_in {c n : Nat} {nm : Str} {fs : List Str} {m : List S → Rs S} {g : En → Rs (List Hd)} (hc : Z.K.ct[c]? = some (nm, fs)) : ∀ σ H Q, dF Z W (mkf c n m g) σ H Q → tMakeS (He.ga Z.K.K nm) (spD Z.K n m) (WE W) (dA Z W g) σ H Q := fun σ H Q ⟨F, ρ, ea, q⟩ => ⟨F, ρ, ea, q.bind.mono fun hs ρ1 F1 H1 st e1 q vs hv x dx nx nd ne => by
  obtain ⟨ss, es, q⟩ := q.opt
  by_cases cc : hs.length + 1 = n ∧ (sls hs).Nodup
  · rw [if_pos cc] at q
    obtain ⟨e2, st2⟩ := ext_ea hc e1 nx nd ne
    have hlt := args_lt es
    have hv' : HdsA Z.K F1 (σ ++ [some (.ref x)]) (V.ref x :: vs) (.sl σ.length :: hs) := ⟨by show (σ ++ [some (.ref x)])[σ.length]? = _; simp, hds_app hv⟩
    have es' : argsS (ρ1 ++ [.O c []]) (.sl σ.length :: hs) = some (.O c [] :: ss) := by
      show (argS (ρ1 ++ [.O c []]) (.sl σ.length)).bind _ = _
      have : argS (ρ1 ++ [S.O c []]) (.sl σ.length) = some (.O c []) := by
        simp only [argS]
        rw [← e1.len, List.getElem?_append_right (Nat.le_refl _)]
        simp [S.dat]
      rw [this, Option.bind_some, args_app es]; rfl
    have nd' : (sls (.sl σ.length :: hs)).Nodup := List.nodup_cons.mpr ⟨fun z => by have := hlt _ z; rw [e1.len] at this; exact Nat.lt_irrefl _ this, cc.2⟩
    obtain ⟨l1, l2, _⟩ := args_get hv' es'
    refine ⟨by rw [l2]; exact cc.1, F1, .O c [] :: ss, call_ea e2 hv' es' nd', ?_⟩
    -- behind the call: the slots but the last one
    have fin2 : ∀ F' H' s0 ss', Stp ⟨Z.K, [], none⟩ F1 (upd (upd H1 dx (.own x)) x (.ins (He.ga Z.K.K nm) dx [])) ((V.ref x :: vs).map some) (.O c [] :: ss) F' H' ((V.ref x :: vs).map some) (s0 :: ss') → EA ⟨Z.K, [], none⟩ F' H' ((V.ref x :: vs).map some) (s0 :: ss') →
        Stp Z F1 H1 σ ρ1 F' H' σ (backS hs ss' ρ1) ∧ EA Z F' H' σ (backS hs ss' ρ1) ∧ SlA Z F' H' (some (.ref x)) s0 ∧ (s0.own = true → ∀ i, ¬ OwnI σ (backS hs ss' ρ1) i x) := by
      intro F' H' s0 ss' s3 e3
      obtain ⟨s4, e4⟩ := call_back e2 hv' es' nd' s3 e3
      have eb : backS (.sl σ.length :: hs) (s0 :: ss') (ρ1 ++ [.O c []]) = backS hs ss' ρ1 ++ [s0] := by
        simp only [backS]
        rw [← e1.len, List.set_append_right _ _ (Nat.le_refl _)]
        simp only [Nat.sub_self, List.set_cons_zero]
        exact back_app hlt
      rw [eb] at s4 e4
      have s5 := st2.trans s4
      have low : ∀ i a, OwnI σ (backS hs ss' ρ1) i a → OwnI (σ ++ [some (.ref x)]) (backS hs ss' ρ1 ++ [s0]) i a := fun i a ⟨h1, s, h2, h3⟩ => by
        have := (List.getElem?_eq_some_iff.mp h1).1
        have := (List.getElem?_eq_some_iff.mp h2).1
        exact ⟨by rw [List.getElem?_append_left (by assumption)]; exact h1, s, by rw [List.getElem?_append_left (by assumption)]; exact h2, h3⟩
      have hbl : (backS hs ss' ρ1).length = σ.length := by rw [back_len]; exact e1.len
      have last : (σ ++ [some (V.ref x)])[σ.length]? = some (some (.ref x)) := by simp
      have lastρ : (backS hs ss' ρ1 ++ [s0])[σ.length]? = some s0 := by rw [← hbl]; simp
      refine ⟨⟨s5.same, s5.new, s5.keep, fun i b h => s5.own i b (low i b h), fun _ _ _ => rfl, Nat.le_refl _⟩, ⟨e4.sub, hbl, fun i s h => ?_, fun i j a h1 h2 => e4.dis i j a (low i a h1) (low j a h2)⟩, ?_, fun so i z => ?_⟩
      · have hi := (List.getElem?_eq_some_iff.mp h).1
        have := e4.sl i s (by rw [List.getElem?_append_left hi]; exact h)
        rwa [List.getElem?_append_left (by rw [← hbl]; exact hi)] at this
      · have := e4.sl σ.length s0 lastρ
        rwa [last] at this
      · have := e4.dis i σ.length x (low i x z) ⟨last, s0, lastρ, so⟩
        obtain ⟨h1, _⟩ := z
        have hi := (List.getElem?_eq_some_iff.mp h1).1
        omega
    revert q
    cases m (.O c [] :: ss) with
    | stuck => exact fun z => z.elim
    | exc c' xs ss1 =>
      cases ss1 with
      | nil => exact fun z => z.elim
      | cons s0 ss' =>
        intro q F' H' cls dd s3 e3 xa
        obtain ⟨a1, a2, _⟩ := fin2 F' H' s0 ss' s3 e3
        exact q F' H' cls dd a1 a2 xa
    | ok s ss1 =>
      intro q
      unfold mkB at q
      split at q
      · rename_i c' xs ss' heq
        cases heq
        intro F' H' s3 e3 v ra
        obtain ⟨w, hw, dw⟩ := ra.1
        cases hw
        refine ⟨da_non dw, ?_⟩
        obtain ⟨a1, a2, a3, a4⟩ := fin2 F' H' _ ss' s3 e3
        exact q F' H' a1 a2 (.ref x) ⟨a3, fun so p hp => by cases hp; exact ⟨Ori.back st (.inr nx), a4 so⟩⟩
      · rename_i heq; cases heq
      · exact q.elim
  · rw [if_neg cc] at q; exact q.elim⟩
theorem d_make {X : Cx} {CT : CXT} {k j c n : Nat} {x nm : Str} {fs : List Str} {m : List S → Rs S} {g : En → Rs (List Hd)} {e : Expr} {es : List Expr} {p pos : Pos} (hc : Z.K.ct[c]? = some (nm, fs)) (cm : Mak X.prog X.w X.K X.mg X.base CT k x (He.ga Z.K.K nm) (spD Z.K n m)) (hr : Room j X.A) (hk : k + 1 ≤ j) (hx : ∀ σ, PassesAt CT X σ (WE W σ)) (hg : Gl X x) (ha : DR X Z W (e :: es) g)
    (hdb : NotDbg x := by decide) (he : StarOk X e es := by rfl) (hpl : NoStars X pos es := by rfl) :
    DF X Z W (.Call (.Name x p) (e :: es) [] pos) (mkf c n m g) := ⟨pe_imp (pe_mk cm hr hk hx hg ha.pa hdb he hpl) (mk_in hc)⟩
def mk0 (c : Nat) : En → Rs S := fun ρ => .ok (.O c []) ρ
theorem d_mk0 {X : Cx} {c : Nat} {x nm : Str} {fs : List Str} {p pos : Pos} (hc : Z.K.ct[c]? = some (nm, fs)) (M : Mk0 X.K (He.ga Z.K.K nm)) (hg : Gl X x) (hm : X.mg x = some (.ref (He.ga Z.K.K nm))) (hdb : NotDbg x := by decide) : DF X Z W (.Call (.Name x p) [] [] pos) (mk0 c) := ⟨pe_imp (pe_mk0 M hg hm hdb) fun σ H Q ⟨F, ρ, ea, q⟩ x dx nx nd ne => by
  have sm : Same H (upd (upd H dx (.own x)) x (.ins (He.ga Z.K.K nm) dx [])) := fun b o h => by
    rw [upd_ne (ne_of_none h nx), upd_ne (ne_of_none h nd)]; exact h
  have al : Al F H F (upd (upd H dx (.own x)) x (.ins (He.ga Z.K.K nm) dx [])) := ⟨Same.refl _, sm, ea.sub.trans sm, fun b h => .inl h⟩
  refine q F _ al.stp (ea.al al) (.ref x) ⟨⟨nm, fs, x, dx, [], hc, rfl, ea.sub.free nx, by rw [List.zip_nil_right]; exact upd_same, Nat.zero_le _, DAs.nil⟩, fun _ p hp => ?_⟩
  cases hp
  exact ⟨.inr nx, fun i z => by obtain ⟨_, u, hu⟩ := ea.ownF z; rw [nx] at hu; cases hu⟩⟩
end

/-! ### comprehensions -/
def W0 : WX := fun _ _ _ _ => False
def wipeE (ρ : En) : List Nat → En
  | [] => ρ
  | v :: vs => (wipeE ρ vs).set v .un
def resE (ρ0 ρ : En) : List Nat → En
  | [] => ρ
  | v :: vs => match ρ0[v]? with
    | some (.d x) => (resE ρ0 ρ vs).set v (.d x)
    | _ => (resE ρ0 ρ vs).set v .un
/-- an error within is none of what is told -/
def Rs.cb {α β : Type} (r : Rs α) (k : α → En → Rs β) : Rs β := match r with
  | .ok a ρ => k a ρ
  | _ => .stuck
@[simp] theorem Rs.cb_ok {α β : Type} (a : α) (ρ : En) (k : α → En → Rs β) : (Rs.ok a ρ).cb k = k a ρ := rfl
@[simp] theorem Rs.cb_exc {α β : Type} (c : Nat) (xs : List D) (ρ : En) (k : α → En → Rs β) : (Rs.exc c xs ρ : Rs α).cb k = .stuck := rfl
@[simp] theorem Rs.cb_stuck {α β : Type} (k : α → En → Rs β) : (Rs.stuck : Rs α).cb k = .stuck := rfl
theorem Rs.cb_of {α β : Type} {r : Rs α} {k : α → En → Rs β} {b : β} {ρ : En} (h : r.cb k = .ok b ρ) : ∃ a ρ', r = .ok a ρ' ∧ k a ρ' = .ok b ρ := by
  cases r with
  | ok a ρ' => exact ⟨a, ρ', rfl, h⟩
  | _ => cases h
theorem Rs.opt_of {α β : Type} {o : Option α} {k : α → Rs β} {b : β} {ρ : En} (h : Rs.opt o k = .ok b ρ) : ∃ a, o = some a ∧ k a = .ok b ρ := by
  cases o with
  | some a => exact ⟨a, rfl, h⟩
  | none => cases h
def lcL (t : Tg) (vs : List Nat) (c : En → Rs Bool) (e : En → Rs D) : List D → List D → En → Rs (List D)
  | [], acc, ρ => .ok acc ρ
  | x :: xs, acc, ρ => Rs.opt (t.put x ρ) fun ρ1 => (c ρ1).cb fun b ρ2 => if b = true then (e ρ2).cb fun y ρ3 => lcL t vs c e xs (acc ++ [y]) (wipeE ρ3 vs) else lcL t vs c e xs acc (wipeE ρ2 vs)
def lcG (m : En → Rs (List D)) (t : Tg) (vs : List Nat) (c : En → Rs Bool) (e : En → Rs D) : En → Rs S := fun ρ => (m ρ).bind fun its ρ1 => if its.length ≤ 100000 then (lcL t vs c e its [] (wipeE ρ1 vs)).cb fun ys ρ2 => .ok (.L ys) (resE ρ1 ρ2 vs) else .stuck
def tru : En → Rs Bool := fun ρ => .ok true ρ
section
variable {Z : Zt} {W : WX} {F H F1 H1 F' H' : Hp} {σ σ' σ1 : L2.St} {ρ ρ' ρ1 : En}
theorem wipe_get {σ : L2.St} {j : Nat} : ∀ {vs : List Nat}, (wipe σ vs)[j]? = if j ∈ vs then (if j < σ.length then some none else none) else σ[j]?
  | [] => by simp [wipe]
  | v :: vs => by
    simp only [wipe]
    rw [List.getElem?_set, wipe_length, wipe_get]
    by_cases c : v = j
    · subst c; simp
    · rw [if_neg c]
      by_cases q : j ∈ vs
      · simp [q]
      · have : j ∉ v :: vs := fun z => by rcases List.mem_cons.mp z with z | z; exact c z.symm; exact q z
        simp [q, this]
theorem wipeE_len {ρ : En} : ∀ {vs : List Nat}, (wipeE ρ vs).length = ρ.length
  | [] => rfl
  | v :: vs => by simp only [wipeE, List.length_set]; exact wipeE_len
theorem wipeE_get {ρ : En} {j : Nat} {s : S} : ∀ {vs : List Nat}, (wipeE ρ vs)[j]? = some s → (j ∈ vs ∧ s = .un) ∨ (j ∉ vs ∧ ρ[j]? = some s)
  | [], h => .inr ⟨by simp, h⟩
  | v :: vs, h => by
    simp only [wipeE] at h
    rw [List.getElem?_set] at h
    by_cases c : v = j
    · subst c
      by_cases q : v < (wipeE ρ vs).length
      · simp [q] at h; exact .inl ⟨List.mem_cons_self, h.symm⟩
      · simp [q] at h
    · rw [if_neg c] at h
      rcases wipeE_get h with ⟨a, b⟩ | ⟨a, b⟩
      · exact .inl ⟨List.mem_cons_of_mem _ a, b⟩
      · refine .inr ⟨fun z => ?_, b⟩
        rcases List.mem_cons.mp z with z | z
        · exact c z.symm
        · exact a z
theorem resE_len {ρ0 ρ : En} : ∀ {vs : List Nat}, (resE ρ0 ρ vs).length = ρ.length
  | [] => rfl
  | v :: vs => by
    simp only [resE]
    split <;> rw [List.length_set, resE_len]
theorem resE_get {ρ0 ρ : En} {j : Nat} {s : S} : ∀ {vs : List Nat}, (resE ρ0 ρ vs)[j]? = some s → (j ∈ vs ∧ (s = .un ∨ ∃ x, s = .d x ∧ ρ0[j]? = some s)) ∨ (j ∉ vs ∧ ρ[j]? = some s)
  | [], h => .inr ⟨by simp, h⟩
  | v :: vs, h => by
    have go : ∀ t : S, ((resE ρ0 ρ vs).set v t)[j]? = some s → (t = .un ∨ ∃ x, t = .d x ∧ ρ0[v]? = some t) → (j ∈ v :: vs ∧ (s = .un ∨ ∃ x, s = .d x ∧ ρ0[j]? = some s)) ∨ (j ∉ v :: vs ∧ ρ[j]? = some s) := by
      intro t h ht
      rw [List.getElem?_set] at h
      by_cases c : v = j
      · subst c
        by_cases q : v < (resE ρ0 ρ vs).length
        · simp [q] at h; subst h; exact .inl ⟨List.mem_cons_self, ht⟩
        · simp [q] at h
      · rw [if_neg c] at h
        rcases resE_get h with ⟨a, b⟩ | ⟨a, b⟩
        · exact .inl ⟨List.mem_cons_of_mem _ a, b⟩
        · refine .inr ⟨fun z => ?_, b⟩
          rcases List.mem_cons.mp z with z | z
          · exact c z.symm
          · exact a z
    simp only [resE] at h
    split at h
    · rename_i x hx; exact go _ h (.inr ⟨x, rfl, hx⟩)
    · exact go _ h (.inl rfl)
theorem wipe_own {vs : List Nat} {i : Nat} {a : Addr} (h : OwnI (wipe σ vs) (wipeE ρ vs) i a) : i ∉ vs ∧ OwnI σ ρ i a := by
  obtain ⟨h1, s, h2, h3⟩ := h
  rcases wipeE_get h2 with ⟨a, rfl⟩ | ⟨a, b⟩
  · cases h3
  · rw [wipe_get, if_neg a] at h1; exact ⟨a, h1, s, b, h3⟩
theorem wipe_ea {vs : List Nat} (e : EA Z F H σ ρ) : EA Z F H (wipe σ vs) (wipeE ρ vs) where
  sub := e.sub
  len := by rw [wipeE_len, wipe_length]; exact e.len
  sl := fun j s h => by
    rcases wipeE_get h with ⟨a, rfl⟩ | ⟨a, b⟩
    · trivial
    · rw [wipe_get, if_neg a]; exact e.sl j s b
  dis := fun i j a h1 h2 => e.dis i j a (wipe_own h1).2 (wipe_own h2).2
/-- from one turn's slots to the next one's -/
theorem turn_ea {vs : List Nat} (e : EA Z F H σ' ρ') (w : wipe σ' vs = wipe σ vs) : EA Z F H (wipe σ vs) (wipeE ρ' vs) := w ▸ wipe_ea e
theorem oth_wipe {L vs : List Nat} (o : Oth L (wipe σ vs) σ') (hl : ∀ i ∈ L, i ∈ vs) : wipe σ' vs = wipe σ vs := by
  apply List.ext_getElem?
  intro j
  rw [wipe_get, wipe_get]
  have := o.1
  rw [wipe_length] at this
  by_cases c : j ∈ vs
  · rw [if_pos c, if_pos c, this]
  · rw [if_neg c, if_neg c, o.2 j fun z => c (hl j z), wipe_get, if_neg c]
/-- what holds between two turns: the slots wiped, the new list at B, the rest of the turns -/
def LcI (Z : Zt) (F1 H1 : Hp) (w : L2.St) (ρ1 : En) (B : Addr) (r : List D → En → Rs (List D)) (ys : List D) (ρe : En) (n : Nat) (H : Hp) : Prop :=
  ∃ F ρ acc vacc, EA Z F H w ρ ∧ Stp Z F1 H1 w ρ1 F H w ρ ∧ F B = none ∧ H B = some (.lst vacc) ∧ DAs Z.K F acc vacc ∧ (∀ i, ¬ OwnI w ρ i B) ∧ vacc.length ≤ n ∧ r acc ρ = .ok ys ρe
theorem keepD {D : Addr} {vacc : List V} (s : Stp Z F H σ ρ F' H' σ' ρ') (fd : F D = none) (hd : H D = some (.lst vacc)) (n : ∀ i, ¬ OwnI σ ρ i D) : F' D = none ∧ H' D = some (.lst vacc) ∧ ∀ i, ¬ OwnI σ' ρ' i D := by
  have no : ¬ Ori H σ ρ D := fun z => by
    rcases z with ⟨i, z⟩ | z
    · exact n i z
    · rw [hd] at z; cases z
  refine ⟨?_, s.keep D _ hd n, fun i z => no (s.own i D z)⟩
  cases q : F' D with
  | none => rfl
  | some u =>
    rcases s.new D (by rw [q]; exact fun z => nomatch z) with y | y
    · exact absurd fd y
    · exact absurd y no
theorem wE_stp {vs : List Nat} (w : wipe σ' vs = wipe σ vs) (hb : ∀ i ∈ vs, i ∉ Z.bp) : Stp Z F H σ' ρ' F H (wipe σ vs) (wipeE ρ' vs) := by
  rw [← w]
  refine ⟨Same.refl _, fun b h => .inl h, fun b o h _ => h, fun i b h => .inl ⟨i, (wipe_own h).2⟩, fun i hi hl => ?_, by rw [wipe_length]; exact Nat.le_refl _⟩
  rw [wipe_get, if_neg fun z => hb i z hi]
/-- a longer list at D -/
theorem growD {D : Addr} {xs : List V} {o : HO} (e : EA Z F H σ ρ) (fd : F D = none) (hd : H D = some (.lst xs)) (n : ∀ i, ¬ OwnI σ ρ i D) : EA Z F (upd H D o) σ ρ where
  sub := fun b u h => by rw [upd_ne fun z => by rw [z, fd] at h; cases h]; exact e.sub _ _ h
  len := e.len
  sl := fun i s h => (e.sl i s h).mono (Same.refl _) fun a u ho so hu hf => ⟨by rw [upd_ne fun z => n i ⟨by rw [← z]; exact join_some ho, s, h, so⟩]; exact hu, hf⟩
  dis := e.dis
theorem lc_in {m : En → Rs (List D)} {g : TG} {t : Tg} {vs : List Nat} {tt : TT} {c : En → Rs Bool} {e : En → Rs D} (ht : GOk Z g t) (hv : ∀ i ∈ t.sl, i ∈ vs) (hb : ∀ i ∈ vs, i ∉ Z.bp) (hc : ∀ σ H Q, dT Z W0 c σ H Q → tt σ H Q) :
    ∀ σ H Q, dF Z W (lcG m t vs c e) σ H Q → tLc (dI Z W m) g tt (dE Z W0 e) vs σ H Q := fun σ H Q ⟨F, ρ, ea, q⟩ => ⟨F, ρ, ea, q.bind.mono fun its ρ1 F1 H1 st1 e1 q J IT B hB => by
  by_cases hle : its.length ≤ 100000
  · rw [if_pos hle] at q
    have lay : Al F1 H1 F1 (upd H1 B (.lst [])) := Al.lay e1.sub hB _
    have e2 := e1.al lay
    generalize hr : lcL t vs c e its [] (wipeE ρ1 vs) = r at q
    cases r with
    | stuck => exact q.elim
    | exc => exact q.elim
    | ok ys ρe =>
      rw [Rs.cb_ok] at q
      -- how the whole ends
      have fin : ∀ F' H' ws, F' B = none → H' B = some (.lst ws) → DAs Z.K F' ys ws → (∀ i, ¬ OwnI (wipe σ vs) ρe i B) → Stp Z F1 H1 (wipe σ vs) (wipeE ρ1 vs) F' H' (wipe σ vs) ρe → EA Z F' H' (wipe σ vs) ρe → Q (.ref B) H' := by
        intro F' H' ws fd hd da nd s e'
        have low : ∀ i a, OwnI σ (resE ρ1 ρe vs) i a → i ∉ vs ∧ OwnI (wipe σ vs) ρe i a := fun i a ⟨h1, s, h2, h3⟩ => by
          rcases resE_get h2 with ⟨_, rfl | ⟨x, rfl, _⟩⟩ | ⟨a1, a2⟩
          · cases h3
          · cases h3
          · exact ⟨a1, by rw [wipe_get, if_neg a1]; exact h1, s, a2, h3⟩
        have ori : ∀ b, Ori H1 (wipe σ vs) (wipeE ρ1 vs) b → Ori H1 σ ρ1 b := fun b h => by
          rcases h with ⟨i, h⟩ | h
          · exact .inl ⟨i, (wipe_own h).2⟩
          · exact .inr h
        have st : Stp Z F1 H1 σ ρ1 F' H' σ (resE ρ1 ρe vs) := ⟨s.same, fun b h => (s.new b h).imp id (ori b), fun b o h n => s.keep b o h fun i z => n i (wipe_own z).2, fun i b h => ori b (s.own i b (low i b h).2), fun _ _ _ => rfl, Nat.le_refl _⟩
        have ee : EA Z F' H' σ (resE ρ1 ρe vs) := by
          refine ⟨e'.sub, by rw [resE_len, e'.len, wipe_length], fun i s0 h => ?_, fun i j a h1 h2 => e'.dis i j a (low i a h1).2 (low j a h2).2⟩
          rcases resE_get h with ⟨_, rfl | ⟨x, rfl, a2⟩⟩ | ⟨a1, a2⟩
          · trivial
          · exact (e1.sl i _ a2).mono s.same fun _ _ _ z => nomatch z
          · have := e'.sl i s0 a2
            rwa [wipe_get, if_neg a1] at this
        exact q F' H' st ee (.ref B) ⟨⟨B, ws, rfl, fd, hd, da⟩, fun _ p hp => by
          cases hp
          exact ⟨Ori.back st1 (.inr hB), fun i z => nd i (low i B z).2⟩⟩
      have n0 : ∀ i, ¬ OwnI (wipe σ vs) (wipeE ρ1 vs) i B := fun i z => by
        obtain ⟨_, u, hu⟩ := e1.ownF (wipe_own z).2
        rw [hB] at hu; cases hu
      refine ⟨fun i n H' => n = its.length - i ∧ i ≤ its.length ∧ LcI Z F1 H1 (wipe σ vs) (wipeE ρ1 vs) B (lcL t vs c e (its.drop i)) ys ρe i H', ⟨its.length, rfl, Nat.zero_le _, F1, wipeE ρ1 vs, [], [], wipe_ea e2, lay.stp, e1.sub.free hB, upd_same, DAs.nil, n0, Nat.le_refl _, hr⟩, ?_⟩
      rintro i n H2 ⟨rfl, hi, F2, ρ2, acc, vacc, e3, s3, fd, hd, da, nd, hl, hr2⟩
      by_cases hlt : i < its.length
      · refine .inr ⟨IT.go i H2 (s3.same.trans e3.sub) hlt, fun H' => i + 1 ≤ its.length ∧ LcI Z F1 H1 (wipe σ vs) (wipeE ρ1 vs) B (lcL t vs c e (its.drop (i + 1))) ys ρe (i + 1) H', fun H' z => ⟨its.length - (i + 1), by omega, rfl, z⟩, fun x H3 yl => ?_⟩
        obtain ⟨F3, d, al, ed, hx⟩ := IT.yl i x F2 H2 H3 s3.same e3.sub hlt yl
        have dr : its.drop i = d :: its.drop (i + 1) := by
          rw [List.drop_eq_getElem_cons hlt]
          have := List.getElem?_eq_getElem hlt
          rw [ed] at this
          rw [Option.some.inj this]
        rw [dr] at hr2
        simp only [lcL] at hr2
        obtain ⟨ρ3, ep, hr2⟩ := Rs.opt_of hr2
        obtain ⟨b, ρ4, hcr, hr2⟩ := Rs.cb_of hr2
        have sa : Stp Z F2 H2 (wipe σ vs) ρ2 F3 H3 (wipe σ vs) ρ2 := al.stp
        refine ht F3 H3 (wipe σ vs) ρ2 d x ρ3 _ (e3.al al) hx ep fun σ3 st3 e4 oth => ?_
        have w3 := oth_wipe oth hv
        refine ⟨w3, hc _ _ _ ⟨F3, ρ3, e4, ?_⟩⟩
        rw [hcr]
        intro F4 H4 s4 e5
        have sb : Stp Z F2 H2 (wipe σ vs) ρ2 F4 H4 σ3 ρ4 := (sa.trans st3).trans s4
        cases b with
        | false =>
          rw [if_neg Bool.false_ne_true] at hr2
          refine (if_neg Bool.false_ne_true).mpr ?_
          have sc := sb.trans (wE_stp w3 hb)
          obtain ⟨k1, k2, k3⟩ := keepD sc fd hd nd
          exact ⟨hlt, F4, _, acc, vacc, turn_ea e5 w3, s3.trans sc, k1, k2, da.mono sc.same, k3, by omega, hr2⟩
        | true =>
          rw [if_pos rfl] at hr2
          refine (if_pos rfl).mpr ?_
          obtain ⟨y, ρ5, her, hr2⟩ := Rs.cb_of hr2
          refine ⟨F4, ρ4, e5, ?_⟩
          rw [her]
          intro F5 H5 s5 e6 v hvy
          have sc := (sb.trans s5).trans (wE_stp w3 hb)
          obtain ⟨k1, k2, k3⟩ := keepD sc fd hd nd
          refine ⟨vacc, k2, line_lt (by omega), hlt, F5, _, acc ++ [y], vacc ++ [v], growD (turn_ea e6 w3) k1 k2 k3, ?_, k1, upd_same, (da.mono sc.same).append (.cons hvy .nil), k3, by rw [List.length_append]; simp; omega, hr2⟩
          have sd := s3.trans sc
          refine ⟨sd.same, sd.new, fun b o h n => ?_, sd.own, sd.par, sd.len⟩
          rw [upd_ne fun z => by rw [z, hB] at h; cases h]; exact sd.keep b o h n
      · have ei : i = its.length := by omega
        subst ei
        rw [List.drop_length] at hr2
        cases hr2
        exact .inl ⟨IT.st H2 (s3.same.trans e3.sub), fin F2 H2 vacc fd hd da nd s3 e3⟩
  · rw [if_neg hle] at q; exact q.elim⟩
end

section
variable {Z : Zt} {W : WX} {X : Cx}
abbrev Bk (X : Cx) (scope : Scope) (J : Cx → Prop) : Prop := ∀ (s : Shared) (H : Hp) (C : Addr) (cl : List (Str × Addr)) (fp : List Addr), J (X.blk s H scope (compEnvC scope cl C X.env) fp)
theorem tru_in : ∀ σ H Q, dT Z W0 tru σ H Q → tYes σ H Q := fun σ H Q ⟨F, ρ, ea, q⟩ => q.here ea
theorem d_lc {elt tg iter : Expr} {scope : Scope} {own : List (Str × Nat)} {pos : Pos} {m : En → Rs (List D)} {g : TG} {t : Tg} {e : En → Rs D} (hc : X.calm = true) (hN : X.N.Nodup) (hi : DI X Z W tg iter m) (ok : BlkOk X.N X.env.scope scope own)
    (hg : Bk X scope fun X => PG X tg g) (ht : GOk Z g t) (hv : ∀ i ∈ t.sl, i ∈ own.map (·.2)) (hb : ∀ i ∈ own.map (·.2), i ∉ Z.bp) (he : Bk X scope fun X => DE X Z W0 elt e)
    (hs : ∀ x, foldedSetIterable iter X.env x = pure x := by first | exact fun _ => rfl | (intro _; rfl)) : DF X Z W (.ListComp elt [⟨tg, iter, [], 0⟩] scope pos) (lcG m t (own.map (·.2)) tru e) :=
  ⟨pe_imp (pe_lc hc hN hi.pi ok hg (fun _ _ _ _ _ => pts_nil) (fun s H C cl fp => (he s H C cl fp).pe) hs) (lc_in ht hv hb tru_in)⟩
theorem d_lcIf {elt tg iter c : Expr} {scope : Scope} {own : List (Str × Nat)} {pos : Pos} {m : En → Rs (List D)} {g : TG} {t : Tg} {mc : En → Rs Bool} {e : En → Rs D} (hc : X.calm = true) (hN : X.N.Nodup) (hi : DI X Z W tg iter m) (ok : BlkOk X.N X.env.scope scope own)
    (hg : Bk X scope fun X => PG X tg g) (ht : GOk Z g t) (hv : ∀ i ∈ t.sl, i ∈ own.map (·.2)) (hb : ∀ i ∈ own.map (·.2), i ∉ Z.bp) (hm : Bk X scope fun X => DT X Z W0 c mc) (he : Bk X scope fun X => DE X Z W0 elt e)
    (hs : ∀ x, foldedSetIterable iter X.env x = pure x := by first | exact fun _ => rfl | (intro _; rfl)) : DF X Z W (.ListComp elt [⟨tg, iter, [c], 0⟩] scope pos) (lcG m t (own.map (·.2)) mc e) :=
  ⟨pe_imp (pe_lc hc hN hi.pi ok hg (fun s H C cl fp => pts_one (hm s H C cl fp).pt) (fun s H C cl fp => (he s H C cl fp).pe) hs) (lc_in ht hv hb fun _ _ _ z => z)⟩
theorem d_setLc {i : Nat} {y : Str} {py : Pos} {elt tg iter : Expr} {scope : Scope} {own : List (Str × Nat)} {pos spos : Pos} {m : En → Rs (List D)} {g : TG} {t : Tg} {e : En → Rs D} (hi0 : i ∉ Z.bp) (hc : X.calm = true) (hN : X.N.Nodup) (hy : X.N[i]? = some y) (hl : X.env.scope.names.lookup y = some .local)
    (hw : swapsWith (.ListComp elt [⟨tg, iter, [], 0⟩] scope pos) (some (.Name y py)) spos.line X.env = pure true) (hi : DI X Z W tg iter m) (ok : BlkOk X.N X.env.scope scope own)
    (hg : Bk X scope fun X => PG X tg g) (ht : GOk Z g t) (hv : ∀ i ∈ t.sl, i ∈ own.map (·.2)) (hb : ∀ i ∈ own.map (·.2), i ∉ Z.bp) (he : Bk X scope fun X => DE X Z W0 elt e)
    (hs : ∀ x, foldedSetIterable iter X.env x = pure x := by first | exact fun _ => rfl | (intro _; rfl)) : DS X Z W (.Assign [.Name y py] (.ListComp elt [⟨tg, iter, [], 0⟩] scope pos) spos) (set i (lcG m t (own.map (·.2)) tru e)) :=
  ⟨ps_imp (ps_setLc hc hN hy hl hw hi.pi ok hg (fun _ _ _ _ _ => pts_nil) (fun s H C cl fp => (he s H C cl fp).pe) hs) fun E σ H q => by
    have := set_in hi0 E σ H q
    exact lc_in ht hv hb tru_in σ H _ this⟩
theorem d_setLcIf {i : Nat} {y : Str} {py : Pos} {elt tg iter c : Expr} {scope : Scope} {own : List (Str × Nat)} {pos spos : Pos} {m : En → Rs (List D)} {g : TG} {t : Tg} {mc : En → Rs Bool} {e : En → Rs D} (hi0 : i ∉ Z.bp) (hc : X.calm = true) (hN : X.N.Nodup) (hy : X.N[i]? = some y) (hl : X.env.scope.names.lookup y = some .local)
    (hw : swapsWith (.ListComp elt [⟨tg, iter, [c], 0⟩] scope pos) (some (.Name y py)) spos.line X.env = pure true) (hi : DI X Z W tg iter m) (ok : BlkOk X.N X.env.scope scope own)
    (hg : Bk X scope fun X => PG X tg g) (ht : GOk Z g t) (hv : ∀ i ∈ t.sl, i ∈ own.map (·.2)) (hb : ∀ i ∈ own.map (·.2), i ∉ Z.bp) (hm : Bk X scope fun X => DT X Z W0 c mc) (he : Bk X scope fun X => DE X Z W0 elt e)
    (hs : ∀ x, foldedSetIterable iter X.env x = pure x := by first | exact fun _ => rfl | (intro _; rfl)) : DS X Z W (.Assign [.Name y py] (.ListComp elt [⟨tg, iter, [c], 0⟩] scope pos) spos) (set i (lcG m t (own.map (·.2)) mc e)) :=
  ⟨ps_imp (ps_setLc hc hN hy hl hw hi.pi ok hg (fun s H C cl fp => pts_one (hm s H C cl fp).pt) (fun s H C cl fp => (he s H C cl fp).pe) hs) fun E σ H q => by
    have := set_in hi0 E σ H q
    exact lc_in ht hv hb (fun _ _ _ z => z) σ H _ this⟩
/-! ### what is walked -/
def chrs (s : Str) : List D := s.cps.toList.map fun c => .str ⟨#[c]⟩
def itsOf : D → Option (List D)
  | .tup xs => some xs
  | .lst xs => some xs
  | .str s => some (chrs s)
  | _ => none
def itD (m : En → Rs D) : En → Rs (List D) := fun ρ => (m ρ).bind fun x ρ' => Rs.opt (itsOf x) fun its => .ok its ρ'
theorem it_list {F : Hp} {a : Addr} {vs : List V} {xs : List D} (h : SqL Z.K.K F a vs) (d : DAs Z.K F xs vs) : ItD Z F (Itl Z.K.K a) xs where
  go := fun i H s hi => ⟨vs, vs[i]'(by rw [d.length]; exact hi), s.seq h, List.getElem?_eq_getElem _⟩
  yl := fun i x F1 H H' s1 s2 hi y => by
    obtain ⟨e, h2⟩ := y
    subst e
    have e1 := h2 vs ((s1.trans s2).seq h)
    obtain ⟨z, e2, e3⟩ := d.get e1
    exact ⟨F1, z, Al.refl s2, e2, e3.mono s1⟩
  st := fun H s => ⟨vs, s.seq h, by rw [d.length]; exact Nat.le_refl _⟩
theorem it_tup {F : Hp} {a : Addr} {vs : List V} {xs : List D} (h : SqT Z.K.K F a vs) (d : DAs Z.K F xs vs) : ItD Z F (Itt Z.K.K a) xs where
  go := fun i H s hi => ⟨vs, vs[i]'(by rw [d.length]; exact hi), same_t s h, List.getElem?_eq_getElem _⟩
  yl := fun i x F1 H H' s1 s2 hi y => by
    obtain ⟨e, h2⟩ := y
    subst e
    have e1 := h2 vs (same_t (s1.trans s2) h)
    obtain ⟨z, e2, e3⟩ := d.get e1
    exact ⟨F1, z, Al.refl s2, e2, e3.mono s1⟩
  st := fun H s => ⟨vs, same_t s h, by rw [d.length]; exact Nat.le_refl _⟩
theorem it_str {F : Hp} {z : Str} : ItD Z F (Its z) (chrs z) where
  go := fun i H s hi => by show i < z.cps.size; simpa [chrs] using hi
  yl := fun i x F1 H H' s1 s2 hi y => by
    obtain ⟨e, c, h1, h2⟩ := y
    subst e
    refine ⟨F1, .str ⟨#[c]⟩, Al.refl s2, ?_, h2 ▸ DA.str⟩
    simp only [chrs, List.getElem?_map]
    have : z.cps.toList[i]? = some c := by simpa using h1
    rw [this]; rfl
  st := fun H s => by show z.cps.size ≤ _; simp [chrs]
theorem it_in {m : En → Rs D} : ∀ σ H R, dI Z W (itD m) σ H R → iA Z.K.K (dE Z W m) σ H R := fun σ H R ⟨F, ρ, ea, q⟩ => by
  unfold itD at q
  cases r : m ρ with
  | stuck => rw [r] at q; exact q.elim
  | exc c xs ρ' => rw [r] at q; exact .inl ⟨F, ρ, ea, by rw [r]; exact q⟩
  | ok x ρ1 =>
    rw [r, Rs.bind_ok] at q
    obtain ⟨its, ei, q⟩ := q.opt
    cases x with
    | tup xs =>
      cases ei
      refine .inr (.inl ⟨F, ρ, ea, ?_⟩)
      rw [r]
      intro F' H' st e v hv
      obtain ⟨a, vs, rfl, h1, h2⟩ := hv.tup'
      exact ⟨a, rfl, ⟨vs, same_t e.sub h1⟩, q F' H' st e _ (it_tup h1 h2)⟩
    | lst xs =>
      cases ei
      refine .inl ⟨F, ρ, ea, ?_⟩
      rw [r]
      intro F' H' st e v hv
      obtain ⟨a, vs, rfl, h1, h2⟩ := hv.lst'
      exact ⟨a, rfl, ⟨vs, e.sub.seq h1⟩, q F' H' st e _ (it_list h1 h2)⟩
    | str s =>
      cases ei
      refine .inr (.inr ⟨F, ρ, ea, ?_⟩)
      rw [r]
      intro F' H' st e v hv
      exact ⟨s, da_str hv, q F' H' st e _ it_str⟩
    | _ => cases ei
theorem i_it {tg l : Expr} {m : En → Rs D} (h : DE X Z W l m) (hk : X.K = Z.K.K := by rfl) : DI X Z W tg l (itD m) := ⟨pi_imp (oIt Z.K.K h.pe hk) it_in⟩
/-! range -/
def rgI (lo : Int) (n : Nat) : List D := (List.range n).map fun (i : Nat) => .int (lo + i)
def rng1 : List D → Option (List D)
  | [.int j] => if -(2 ^ 62) ≤ j ∧ j < 2 ^ 62 then some (rgI 0 j.toNat) else none
  | _ => none
def rng2 : List D → Option (List D)
  | [.int i, .int j] => if -(2 ^ 62) ≤ i ∧ i < 2 ^ 62 ∧ -(2 ^ 62) ≤ j ∧ j < 2 ^ 62 then some (rgI i (j - i).toNat) else none
  | _ => none
def itN (f : List D → Option (List D)) (g : En → Rs (List Hd)) : En → Rs (List D) := fun ρ => (g ρ).bind fun hs ρ' => Rs.opt (resAll ρ' hs) fun xs => Rs.opt (f xs) fun its => .ok its ρ'
theorem it_rng {F : Hp} {lo : Int} {n : Nat} : ItD Z F (Itr lo n) (rgI lo n) where
  go := fun i H s hi => by show i < n; simpa [rgI] using hi
  yl := fun i x F1 H H' s1 s2 hi y => by
    obtain ⟨e, h⟩ := y
    subst e h
    refine ⟨F1, .int (lo + i), Al.refl s2, ?_, DA.int⟩
    have : i < n := by simpa [rgI] using hi
    simp [rgI, this]
  st := fun H s => by show n ≤ _; simp [rgI]
theorem pks_one {K : Kt} {F H : Hp} {x : D} {vs : List V} (h : Pks K F H [x] vs) : ∃ v, vs = [v] ∧ Pk K F H x v := by
  match vs, h with
  | [v], h => exact ⟨v, rfl, h.1⟩
theorem pks_two {K : Kt} {F H : Hp} {x y : D} {vs : List V} (h : Pks K F H [x, y] vs) : ∃ v w, vs = [v, w] ∧ Pk K F H x v ∧ Pk K F H y w := by
  match vs, h with
  | [v, w], h => exact ⟨v, w, rfl, h.1, h.2.1⟩
theorem pks_nil {K : Kt} {F H : Hp} {vs : List V} (h : Pks K F H [] vs) : vs = [] := by
  match vs, h with
  | [], h => rfl
/-- a walk over what some arguments say -/
def OkI (Z : Zt) (w : List V → Hp → (It → Hp → Prop) → Prop) (f : List D → Option (List D)) : Prop := ∀ F H xs vs its R, Same F H → Pks Z.K F H xs vs → f xs = some its → (∀ J F' H', Al F H F' H' → ItD Z F' J its → R J H') → w vs H R
theorem itN_in {f : List D → Option (List D)} {g : En → Rs (List Hd)} {w : List V → Hp → (It → Hp → Prop) → Prop} (ok : OkI Z w f) : ∀ σ H R, dI Z W (itN f g) σ H R → dA Z W g σ H fun vs H1 => w vs H1 R := fun σ H R ⟨F, ρ, ea, q⟩ => ⟨F, ρ, ea, q.bind.mono fun hs ρ' F' H' st e q vs hv => by
  obtain ⟨xs, ex, q⟩ := q.opt
  obtain ⟨its, ei, q⟩ := q.opt
  exact ok F' H' xs vs its R e.sub (resAll_pk e hv ex) ei fun J F2 H2 al IT => q F2 H2 al.stp (e.al al) J IT⟩
theorem ok_rng1 : OkI Z (fun vs H1 R => ∃ j : Int, vs = [.int j] ∧ -(2 ^ 62) ≤ j ∧ j < 2 ^ 62 ∧ R (Itr 0 j.toNat) H1) rng1 := fun F H xs vs its R s pk ei k => by
  unfold rng1 at ei
  split at ei
  · rename_i j
    split at ei
    · rename_i hj
      cases ei
      obtain ⟨v, rfl, h⟩ := pks_one pk
      exact ⟨j, by rw [pk_int h], hj.1, hj.2, k _ F H (Al.refl s) it_rng⟩
    · cases ei
  · cases ei
theorem ok_rng2 : OkI Z (fun vs H1 R => ∃ i j : Int, vs = [.int i, .int j] ∧ (-(2 ^ 62) ≤ i ∧ i < 2 ^ 62 ∧ -(2 ^ 62) ≤ j ∧ j < 2 ^ 62) ∧ R (Itr i (j - i).toNat) H1) rng2 := fun F H xs vs its R s pk ei k => by
  unfold rng2 at ei
  split at ei
  · rename_i i j
    split at ei
    · rename_i hj
      cases ei
      obtain ⟨v, w, rfl, h1, h2⟩ := pks_two pk
      exact ⟨i, j, by rw [pk_int h1, pk_int h2], hj, k _ F H (Al.refl s) it_rng⟩
    · cases ei
  · cases ei
theorem i_rng1 {tg a : Expr} {g : En → Rs (List Hd)} {p pos : Pos} (hg : Gl X "range") (hm : X.mg "range" = none) (ha : DR X Z W [a] g) (hs : starEach [a] X.env = [(false, eval a X.env)] := by rfl) : DI X Z W tg (.Call (.Name "range" p) [a] [] pos) (itN rng1 g) :=
  ⟨pi_imp (pi_range1 hg hm ha.pa hs) (itN_in ok_rng1)⟩
theorem i_rng2 {tg a b : Expr} {g : En → Rs (List Hd)} {p pos : Pos} (hg : Gl X "range") (hm : X.mg "range" = none) (ha : DR X Z W [a, b] g) (hs : starEach [a, b] X.env = [(false, eval a X.env), (false, eval b X.env)] := by rfl) (hs2 : starEach [b] X.env = [(false, eval b X.env)] := by rfl) : DI X Z W tg (.Call (.Name "range" p) [a, b] [] pos) (itN rng2 g) :=
  ⟨pi_imp (pi_range2 hg hm ha.pa hs hs2) (itN_in ok_rng2)⟩
/-! enumerate -/
def enumD : Nat → List D → List D
  | _, [] => []
  | k, x :: xs => .tup [.int k, x] :: enumD (k + 1) xs
theorem enumD_get : ∀ {xs : List D} {k i : Nat}, (enumD k xs)[i]? = (xs[i]?).map fun x => .tup [.int ((k + i : Nat) : Int), x]
  | [], _, _ => by simp [enumD]
  | x :: xs, k, 0 => by simp [enumD]
  | x :: xs, k, i + 1 => by
    simp only [enumD, List.getElem?_cons_succ, enumD_get]
    rw [show k + 1 + i = k + (i + 1) by omega]
theorem enumD_len : ∀ {xs : List D} {k : Nat}, (enumD k xs).length = xs.length
  | [], _ => rfl
  | x :: xs, k => by simp [enumD, enumD_len]
theorem it_enum {F : Hp} {a : Addr} {vs : List V} {xs : List D} (h : SqL Z.K.K F a vs) (d : DAs Z.K F xs vs) : ItD Z F (Ite Z.K.K a) (enumD 0 xs) where
  go := fun i H s hi => ⟨vs, vs[i]'(by rw [enumD_len] at hi; rw [d.length]; exact hi), s.seq h, List.getElem?_eq_getElem _⟩
  yl := fun i x F1 H H' s1 s2 hi y => by
    obtain ⟨T, v, e1, e2, e3, e4⟩ := y
    subst e1 e3
    have e5 := e4 vs ((s1.trans s2).seq h)
    obtain ⟨z, e6, e7⟩ := d.get e5
    refine ⟨_, .tup [.int i, z], Al.add s2 e2 _, by rw [enumD_get, e6]; simp, DA.tup (.inl (.inl upd_same)) (.cons DA.int (.cons ((e7.mono s1).mono (same_new (s2.free e2))) .nil))⟩
  st := fun H s => ⟨vs, s.seq h, by rw [enumD_len, d.length]; exact Nat.le_refl _⟩
def enm (m : En → Rs D) : En → Rs (List D) := fun ρ => (m ρ).bind fun x ρ' => match x with
  | .lst xs => .ok (enumD 0 xs) ρ'
  | _ => .stuck
theorem i_enum {e : Expr} {m : En → Rs D} {p pos tpos : Pos} {elts : List Expr} {kk : Nat} (hg : Gl X "enumerate") (hm : X.mg "enumerate" = none) (ha : DE X Z W e m) (hk : X.K = Z.K.K := by rfl) (hs : starEach [e] X.env = [(false, eval e X.env)] := by rfl) :
    DI X Z W (.Tuple elts kk tpos) (.Call (.Name "enumerate" p) [e] [] pos) (enm m) := ⟨pi_imp (oEnum Z.K.K hg hm (pa_cons ha.pe pa_nil hs) hk hs) fun σ H R ⟨F, ρ, ea, q⟩ => by
  refine ⟨F, ρ, ea, q.bind.mono fun x ρ' F' H' st e q v hv => ?_⟩
  cases x with
  | lst xs =>
    obtain ⟨a, vs, rfl, h1, h2⟩ := hv.lst'
    exact ⟨a, vs, rfl, e.sub.seq h1, q.here e _ (it_enum h1 h2)⟩
  | _ => exact q.elim⟩
end

/-! ### operations on data -/
section
variable {Z : Zt} {W : WX} {X : Cx} {F H : Hp} {Q : VK}
theorem Po.dat {x : D} {v : V} (p : Po Z F H Q (.d x)) (s : Same F H) (h : DA Z.K F x v) : Q v H := p v F H (Al.refl s) ⟨v, rfl, h⟩ fun z => nomatch z
theorem Po.tup {xs : List D} {vs : List V} (p : Po Z F H Q (.d (.tup xs))) (s : Same F H) (h : DAs Z.K F xs vs) (a : Addr) (n : H a = none) : Q (.ref a) (upd H a (.tup vs)) :=
  p _ _ _ (Al.add s n _) ⟨_, rfl, DA.tup (.inl (.inl upd_same)) (h.mono (same_new (s.free n)))⟩ fun z => nomatch z
theorem Po.L {xs : List D} {vs : List V} (p : Po Z F H Q (.L xs)) (s : Same F H) (h : DAs Z.K F xs vs) (a : Addr) (n : H a = none) : Q (.ref a) (upd H a (.lst vs)) :=
  p _ _ _ (Al.lay s n _) ⟨a, vs, rfl, s.free n, upd_same, h⟩ fun _ q hq => by cases hq; exact n
theorem Pk.tup' {xs : List D} {v : V} (h : Pk Z.K F H (.tup xs) v) : ∃ a vs, v = .ref a ∧ SqT Z.K.K H a vs ∧ DAs Z.K F xs vs := let ⟨a, vs, e, h1, h2, _⟩ := h; ⟨a, vs, e, h1, h2⟩
theorem Pk.tupF {xs : List D} {v : V} (h : Pk Z.K F H (.tup xs) v) : DA Z.K F (.tup xs) v := let ⟨a, vs, e, h1, h2, h3⟩ := h; e ▸ DA.tup h3 h2
theorem Pk.lst' {xs : List D} {v : V} (h : Pk Z.K F H (.lst xs) v) : ∃ a vs, v = .ref a ∧ SqL Z.K.K H a vs ∧ DAs Z.K F xs vs := h
abbrev sI (i : Int) : S := .d (.int i)
abbrev sB (b : Bool) : S := .d (.bl b)
def addF : D → D → Option S
  | .int i, .int j => some (sI (i + j))
  | .str a, .str b => if a.length + b.length ≤ 100000 then some (.d (.str (a ++ b))) else none
  | .lst xs, .lst ys => if xs.length + ys.length ≤ 100000 then some (.L (xs ++ ys)) else none
  | .tup xs, .tup ys => if xs ≠ [] ∧ ys ≠ [] ∧ xs.length + ys.length ≤ 100000 then some (.d (.tup (xs ++ ys))) else none
  | _, _ => none
theorem das_nil {xs : List D} {vs : List V} {K : Kt} (h : DAs K F xs vs) : vs = [] ↔ xs = [] := by
  have := h.length
  constructor
  · rintro rfl; exact List.eq_nil_of_length_eq_zero this.symm
  · rintro rfl; exact List.eq_nil_of_length_eq_zero this
theorem ok_add : Ok2 Z (rAddA Z.K.K) addF := fun F H x y v w s Q sm p q e k => by
  unfold addF at e
  split at e
  · cases e; rw [pk_int p, pk_int q]; exact s_addI (k.dat sm DA.int)
  · split at e
    · rename_i h; cases e; rw [pk_str p, pk_str q]; exact s_addS (line_of h) (k.dat sm DA.str)
    · cases e
  · split at e
    · rename_i h; cases e
      obtain ⟨a, vs, rfl, h1, h2⟩ := p.lst'
      obtain ⟨b, ws, rfl, h3, h4⟩ := q.lst'
      exact s_addL h1 h3 (by rw [h2.length, h4.length]; exact line_of h) fun c n => k.L sm (h2.append h4) c n
    · cases e
  · split at e
    · rename_i h; cases e
      obtain ⟨a, vs, rfl, h1, h2⟩ := p.tup'
      obtain ⟨b, ws, rfl, h3, h4⟩ := q.tup'
      exact .inr (.inr (.inr ⟨a, b, vs, ws, rfl, rfl, h1, h3, fun z => h.1 ((das_nil h2).mp z), by rw [h2.length, h4.length]; exact line_of h.2.2, fun z => absurd ((das_nil h4).mp z) h.2.1, fun _ c n => k.tup sm (h2.append h4) c n⟩))
    · cases e
  · cases e
def subF : D → D → Option S
  | .int i, .int j => some (sI (i - j))
  | _, _ => none
def mulF : D → D → Option S
  | .int i, .int j => if (-(2 ^ 64) < i ∧ i < 2 ^ 64) ∨ (-(2 ^ 64) < j ∧ j < 2 ^ 64) then some (sI (i * j)) else none
  | _, _ => none
def modF : D → D → Option S
  | .int i, .int j => if 0 < j then some (sI (i % j)) else none
  | _, _ => none
def fdivF : D → D → Option S
  | .int i, .int j => if 0 < j ∧ j < 1073741824 then some (sI (i / j)) else none
  | _, _ => none
def powF : D → D → Option S
  | .int i, .int j => if 0 ≤ j ∧ j ≤ 1000000 ∧ i.natAbs < 2 ^ 64 then some (sI (i ^ j.toNat)) else none
  | _, _ => none
theorem ok_I0 {f : D → D → Option S} {g : Int → Int → D} {g' : Int → Int → V} (hg : ∀ i j F, DA Z.K F (g i j) (g' i j)) (hf : ∀ x y s, f x y = some s → ∃ i j, x = .int i ∧ y = .int j ∧ s = .d (g i j)) : Ok2 Z (rI0 g') f := fun F H x y v w s Q sm p q e k => by
  obtain ⟨i, j, rfl, rfl, rfl⟩ := hf x y s e
  rw [pk_int p, pk_int q]
  exact ⟨i, j, rfl, rfl, k.dat sm (hg i j F)⟩
theorem ok_I {C : Int → Int → Prop} {f : D → D → Option S} {g : Int → Int → D} {g' : Int → Int → V} (hg : ∀ i j F, DA Z.K F (g i j) (g' i j)) (hf : ∀ x y s, f x y = some s → ∃ i j, x = .int i ∧ y = .int j ∧ C i j ∧ s = .d (g i j)) : Ok2 Z (rI C g') f := fun F H x y v w s Q sm p q e k => by
  obtain ⟨i, j, rfl, rfl, c, rfl⟩ := hf x y s e
  rw [pk_int p, pk_int q]
  exact ⟨i, j, rfl, rfl, c, k.dat sm (hg i j F)⟩
theorem ok_sub : Ok2 Z (rI0 fun i j => .int (i - j)) subF := ok_I0 (g := fun i j => .int (i - j)) (fun _ _ _ => DA.int) fun x y s e => by
  unfold subF at e; split at e
  · cases e; exact ⟨_, _, rfl, rfl, rfl⟩
  · cases e
theorem ok_mul : Ok2 Z (rI CMul fun i j => .int (i * j)) mulF := ok_I (g := fun i j => .int (i * j)) (fun _ _ _ => DA.int) fun x y s e => by
  unfold mulF at e; split at e
  · split at e
    · rename_i h; cases e; exact ⟨_, _, rfl, rfl, h, rfl⟩
    · cases e
  · cases e
theorem ok_mod : Ok2 Z (rI (fun _ j => 0 < j) fun i j => .int (i % j)) modF := ok_I (g := fun i j => .int (i % j)) (fun _ _ _ => DA.int) fun x y s e => by
  unfold modF at e; split at e
  · split at e
    · rename_i h; cases e; exact ⟨_, _, rfl, rfl, h, rfl⟩
    · cases e
  · cases e
theorem ok_fdiv : Ok2 Z (rI CDiv fun i j => .int (i / j)) fdivF := ok_I (g := fun i j => .int (i / j)) (fun _ _ _ => DA.int) fun x y s e => by
  unfold fdivF at e; split at e
  · split at e
    · rename_i h; cases e; exact ⟨_, _, rfl, rfl, h, rfl⟩
    · cases e
  · cases e
theorem ok_pow : Ok2 Z (rI CPow fun i j => .int (i ^ j.toNat)) powF := ok_I (g := fun i j => .int (i ^ j.toNat)) (fun _ _ _ => DA.int) fun x y s e => by
  unfold powF at e; split at e
  · split at e
    · rename_i h; cases e; exact ⟨_, _, rfl, rfl, h, rfl⟩
    · cases e
  · cases e
def cmpF (g : Int → Int → Bool) : D → D → Option S
  | .int i, .int j => some (sB (g i j))
  | _, _ => none
theorem ok_cmp {g : Int → Int → Bool} : Ok2 Z (rI0 fun i j => .bl (g i j)) (cmpF g) := ok_I0 (g := fun i j => .bl (g i j)) (fun _ _ _ => DA.bl) fun x y s e => by
  unfold cmpF at e; split at e
  · cases e; exact ⟨_, _, rfl, rfl, rfl⟩
  · cases e
/-! equality: of single things, of data without objects -/
mutual
def toPy : D → Option PyData
  | .non => some .none
  | .bl b => some (.bool b)
  | .int i => some (.int i)
  | .str s => some (.str s)
  | .tup xs => (toPys xs).map .tuple
  | .lst xs => (toPys xs).map .list
  | _ => none
def toPys : List D → Option (List PyData)
  | [] => some []
  | x :: xs => (toPy x).bind fun a => (toPys xs).map fun as => a :: as
end
mutual
theorem dp_of (sm : Same F H) {K : Kt} : ∀ (x : D) (v : V) (p : PyData), toPy x = some p → DA K F x v → Dp K.K H v p
  | .non, v, p, e, h => by cases e; rw [da_non h]; exact .non
  | .bl b, v, p, e, h => by cases e; rw [da_bl h]; exact .bl b
  | .int i, v, p, e, h => by cases e; rw [da_int h]; exact .int i
  | .str s, v, p, e, h => by cases e; rw [da_str h]; exact .str s
  | .tup xs, v, p, e, h => by
    obtain ⟨ps, e1, rfl⟩ := Option.map_eq_some_iff.mp e
    obtain ⟨a, vs, rfl, h1, h2⟩ := h.tup'
    exact .tup (same_t sm h1) (dps_of sm xs vs ps e1 h2)
  | .lst xs, v, p, e, h => by
    obtain ⟨ps, e1, rfl⟩ := Option.map_eq_some_iff.mp e
    obtain ⟨a, vs, rfl, h1, h2⟩ := h.lst'
    exact .lst (sm.seq h1) (dps_of sm xs vs ps e1 h2)
  | .dct _ _, _, _, e, _ => by cases e
  | .dtt _ _, _, _, e, _ => by cases e
  | .obj _ _, _, _, e, _ => by cases e
theorem dps_of (sm : Same F H) {K : Kt} : ∀ (xs : List D) (vs : List V) (ps : List PyData), toPys xs = some ps → DAs K F xs vs → DpAll K.K H vs ps
  | [], vs, ps, e, h => by cases e; rw [h.nil']; exact .nil
  | x :: xs, vs, ps, e, h => by
    obtain ⟨a, e1, e⟩ := Option.bind_eq_some_iff.mp e
    obtain ⟨as, e2, rfl⟩ := Option.map_eq_some_iff.mp e
    obtain ⟨v, r, rfl, h1, h2⟩ := h.cons'
    exact .cons (dp_of sm x v a e1 h1) (dps_of sm xs r as e2 h2)
end
theorem dp_pk (sm : Same F H) {K : Kt} : ∀ {x : D} {v : V} {p : PyData}, toPy x = some p → Pk K F H x v → Dp K.K H v p
  | .non, _, _, e, h => dp_of sm _ _ _ e h
  | .bl _, _, _, e, h => dp_of sm _ _ _ e h
  | .int _, _, _, e, h => dp_of sm _ _ _ e h
  | .str _, _, _, e, h => dp_of sm _ _ _ e h
  | .tup xs, v, p, e, h => by
    obtain ⟨ps, e1, rfl⟩ := Option.map_eq_some_iff.mp e
    obtain ⟨a, vs, rfl, h1, h2, _⟩ := h
    exact .tup h1 (dps_of sm xs vs ps e1 h2)
  | .lst xs, v, p, e, h => by
    obtain ⟨ps, e1, rfl⟩ := Option.map_eq_some_iff.mp e
    obtain ⟨a, vs, rfl, h1, h2⟩ := h
    exact .lst h1 (dps_of sm xs vs ps e1 h2)
  | .dct _ _, _, _, e, _ => by cases e
  | .dtt _ _, _, _, e, _ => by cases e
  | .obj _ _, _, _, e, _ => by cases e
/-- the bool of an equality -/
def deq : D → D → Option Bool
  | .non, .non => some true
  | .non, .int _ => some false
  | .int _, .non => some false
  | .non, .bl _ => some false
  | .bl _, .non => some false
  | .non, .str _ => some false
  | .str _, .non => some false
  | .int i, .int j => some (decide (i = j))
  | .bl i, .bl j => some (decide (i = j))
  | .str i, .str j => some (decide (i = j))
  | .int _, .str _ => some false
  | .str _, .int _ => some false
  | .bl _, .str _ => some false
  | .str _, .bl _ => some false
  | x, y => (toPy x).bind fun d => (toPy y).bind fun e => if SeqAt.shaped d = true ∧ SeqAt.shaped e = true then some (PyData.eqv d e) else none
def eqF (x y : D) : Option S := (deq x y).map sB
def neF (x y : D) : Option S := (deq x y).map fun b => sB (!b)
/-- how an equality is had: by the single things' rule, or the data's -/
theorem deq_of {K : Kt} (sm : Same F H) {x y : D} {v w : V} {b : Bool} (p : Pk K F H x v) (q : Pk K F H y w) (e : deq x y = some b) :
    (scal v w = true ∧ decide (v = w) = b) ∨ ∃ d e, Dp K.K H v d ∧ Dp K.K H w e ∧ SeqAt.shaped d = true ∧ SeqAt.shaped e = true ∧ PyData.eqv d e = b := by
  unfold deq at e
  split at e
  case h_15 =>
    obtain ⟨d, e1, e⟩ := Option.bind_eq_some_iff.mp e
    obtain ⟨d', e2, e⟩ := Option.bind_eq_some_iff.mp e
    split at e
    · rename_i h
      cases e
      exact .inr ⟨d, d', dp_pk sm e1 p, dp_pk sm e2 q, h.1, h.2, rfl⟩
    · cases e
  all_goals (
    refine .inl ?_
    cases e
    first
      | (rw [pk_non p, pk_non q]; exact ⟨rfl, rfl⟩)
      | (rw [pk_non p, pk_int q]; exact ⟨rfl, rfl⟩)
      | (rw [pk_int p, pk_non q]; exact ⟨rfl, rfl⟩)
      | (rw [pk_non p, pk_bl q]; exact ⟨rfl, rfl⟩)
      | (rw [pk_bl p, pk_non q]; exact ⟨rfl, rfl⟩)
      | (rw [pk_non p, pk_str q]; exact ⟨rfl, rfl⟩)
      | (rw [pk_str p, pk_non q]; exact ⟨rfl, rfl⟩)
      | (rw [pk_int p, pk_str q]; exact ⟨rfl, rfl⟩)
      | (rw [pk_str p, pk_int q]; exact ⟨rfl, rfl⟩)
      | (rw [pk_bl p, pk_str q]; exact ⟨rfl, rfl⟩)
      | (rw [pk_str p, pk_bl q]; exact ⟨rfl, rfl⟩)
      | (rw [pk_int p, pk_int q]; exact ⟨rfl, decide_eq_decide.mpr ⟨fun z => V.int.inj z, fun z => z ▸ rfl⟩⟩)
      | (rw [pk_bl p, pk_bl q]; exact ⟨rfl, decide_eq_decide.mpr ⟨fun z => V.bl.inj z, fun z => z ▸ rfl⟩⟩)
      | (rw [pk_str p, pk_str q]; exact ⟨rfl, decide_eq_decide.mpr ⟨fun z => V.str.inj z, fun z => z ▸ rfl⟩⟩))
theorem ok_eq : Ok2 Z (rEqA Z.K.K) eqF := fun F H x y v w s Q sm p q e k => by
  obtain ⟨b, e1, rfl⟩ := Option.map_eq_some_iff.mp e
  have k := k.dat (v := .bl b) sm DA.bl
  rcases deq_of sm p q e1 with ⟨h1, h2⟩ | ⟨d, e, h1, h2, h3, h4, h5⟩
  · exact s_eq h1 (by rw [h2]; exact k)
  · exact s_eqD h1 h2 h3 h4 (by rw [h5]; exact k)
theorem ok_ne : Ok2 Z (rNeA Z.K.K) neF := fun F H x y v w s Q sm p q e k => by
  obtain ⟨b, e1, rfl⟩ := Option.map_eq_some_iff.mp e
  have k := k.dat (v := .bl (!b)) sm DA.bl
  rcases deq_of sm p q e1 with ⟨h1, h2⟩ | ⟨d, e, h1, h2, h3, h4, h5⟩
  · exact s_ne h1 (by rw [h2]; exact k)
  · exact s_neD h1 h2 h3 h4 (by rw [h5]; exact k)
/-! x in xs -/
def flatD : D → Bool
  | .int _ => true | .str _ => true | .bl _ => true | .non => true
  | _ => false
def toV : D → V
  | .int i => .int i | .str s => .str s | .bl b => .bl b | _ => .non
def memF : D → D → Option Bool
  | .str c, .str z => if c.length = 1 then some (decide (c.cps.toList.headD 0 ∈ z.cps.toList)) else none
  | x, .lst xs => if flatD x && xs.all flatD then some (inV (toV x) (xs.map toV)) else none
  | x, .tup xs => if flatD x && xs.all flatD then some (inV (toV x) (xs.map toV)) else none
  | _, _ => none
def inF (x y : D) : Option S := (memF x y).map sB
def ninF (x y : D) : Option S := (memF x y).map fun b => sB (!b)
theorem flat_v {K : Kt} {x : D} {v : V} (h : flatD x = true) (d : DA K F x v) : v = toV x ∧ flatV v = true := by
  cases x with
  | int i => rw [da_int d]; exact ⟨rfl, rfl⟩
  | str i => rw [da_str d]; exact ⟨rfl, rfl⟩
  | bl i => rw [da_bl d]; exact ⟨rfl, rfl⟩
  | non => rw [da_non d]; exact ⟨rfl, rfl⟩
  | _ => cases h
theorem flat_pk {K : Kt} {x : D} {v : V} (h : flatD x = true) (d : Pk K F H x v) : v = toV x ∧ flatV v = true := by
  cases x with
  | int i => rw [pk_int d]; exact ⟨rfl, rfl⟩
  | str i => rw [pk_str d]; exact ⟨rfl, rfl⟩
  | bl i => rw [pk_bl d]; exact ⟨rfl, rfl⟩
  | non => rw [pk_non d]; exact ⟨rfl, rfl⟩
  | _ => cases h
theorem flat_vs {K : Kt} : ∀ {xs : List D} {vs : List V}, xs.all flatD = true → DAs K F xs vs → vs = xs.map toV ∧ vs.all flatV = true
  | [], vs, _, h => by rw [h.nil']; exact ⟨rfl, rfl⟩
  | x :: xs, vs, e, h => by
    obtain ⟨v, r, rfl, h1, h2⟩ := h.cons'
    simp only [List.all_cons, Bool.and_eq_true] at e
    obtain ⟨a1, a2⟩ := flat_v e.1 h1
    obtain ⟨b1, b2⟩ := flat_vs e.2 h2
    exact ⟨by rw [a1, b1]; rfl, by simp only [List.all_cons, a2, b2]; rfl⟩
theorem mem_of {K : Kt} (sm : Same F H) {x y : D} {v w : V} {b : Bool} (p : Pk K F H x v) (q : Pk K F H y w) (e : memF x y = some b) :
    (∃ c z, v = .str ⟨#[c]⟩ ∧ w = .str z ∧ decide (c ∈ z.cps.toList) = b) ∨ ∃ a vs, w = .ref a ∧ (SqL K.K H a vs ∨ SqT K.K H a vs) ∧ flatV v = true ∧ vs.all flatV = true ∧ inV v vs = b := by
  unfold memF at e
  split at e
  · split at e
    · rename_i c z hc
      cases e
      obtain ⟨l⟩ := c
      obtain ⟨l⟩ := l
      match l, hc with
      | [a], _ => exact .inl ⟨a, z, pk_str p, pk_str q, rfl⟩
    · cases e
  · split at e
    · rename_i xs h
      cases e
      simp only [Bool.and_eq_true] at h
      obtain ⟨a, vs, rfl, h1, h2⟩ := q
      obtain ⟨a1, a2⟩ := flat_pk h.1 p
      obtain ⟨b1, b2⟩ := flat_vs h.2 h2
      exact .inr ⟨a, vs, rfl, .inl h1, a2, b2, by rw [a1, b1]⟩
    · cases e
  · split at e
    · rename_i xs h
      cases e
      simp only [Bool.and_eq_true] at h
      obtain ⟨a, vs, rfl, h1, h2, _⟩ := q
      obtain ⟨a1, a2⟩ := flat_pk h.1 p
      obtain ⟨b1, b2⟩ := flat_vs h.2 h2
      exact .inr ⟨a, vs, rfl, .inr h1, a2, b2, by rw [a1, b1]⟩
    · cases e
  · cases e
theorem ok_in : Ok2 Z (rInA Z.K.K) inF := fun F H x y v w s Q sm p q e k => by
  obtain ⟨b, e1, rfl⟩ := Option.map_eq_some_iff.mp e
  have k := k.dat (v := .bl b) sm DA.bl
  rcases mem_of sm p q e1 with ⟨c, z, rfl, rfl, h⟩ | ⟨a, vs, rfl, h1, h2, h3, h4⟩
  · exact s_in1 (by rw [h]; exact k)
  · exact .inr ⟨a, vs, rfl, h1, h2, h3, by rw [h4]; exact k⟩
theorem ok_nin : Ok2 Z (rNotInA Z.K.K) ninF := fun F H x y v w s Q sm p q e k => by
  obtain ⟨b, e1, rfl⟩ := Option.map_eq_some_iff.mp e
  have k := k.dat (v := .bl (!b)) sm DA.bl
  rcases mem_of sm p q e1 with ⟨c, z, rfl, rfl, h⟩ | ⟨a, vs, rfl, h1, h2, h3, h4⟩
  · exact s_notin1 (by rw [h]; exact k)
  · exact .inr ⟨a, vs, rfl, h1, h2, h3, by rw [h4]; exact k⟩
/-! x[i] -/
def ixS : D → D → Option S
  | .lst xs, .int i => (atI xs i).map .d
  | .tup xs, .int i => (atI xs i).map .d
  | .str z, .int i => if z.length ≤ 100000 then (atI z.cps.toList i).map fun c => .d (.str ⟨#[c]⟩) else none
  | _, _ => none
theorem at_das {K : Kt} {xs : List D} {vs : List V} {i : Int} {x : D} (h : DAs K F xs vs) (e : atI xs i = some x) : ∃ v, atI vs i = some v ∧ DA K F x v := by
  unfold atI at e ⊢
  rw [h.length]
  obtain ⟨j, e1, e2⟩ := Option.bind_eq_some_iff.mp e
  obtain ⟨v, e3, e4⟩ := h.get' e2
  exact ⟨v, by rw [e1]; exact e3, e4⟩
theorem ok_ix : Ok2 Z (rIx Z.K.K) ixS := fun F H x y v w s Q sm p q e k => by
  unfold ixS at e
  split at e
  · obtain ⟨x, e1, rfl⟩ := Option.map_eq_some_iff.mp e
    obtain ⟨a, vs, rfl, h1, h2⟩ := p.lst'
    obtain ⟨u, e2, e3⟩ := at_das h2 e1
    rw [pk_int q]
    exact s_ixL h1 e2 (k.dat sm e3)
  · obtain ⟨x, e1, rfl⟩ := Option.map_eq_some_iff.mp e
    obtain ⟨a, vs, rfl, h1, h2⟩ := p.tup'
    obtain ⟨u, e2, e3⟩ := at_das h2 e1
    rw [pk_int q]
    exact s_ixT h1 e2 (k.dat sm e3)
  · split at e
    · rename_i h
      obtain ⟨c, e1, rfl⟩ := Option.map_eq_some_iff.mp e
      rw [pk_str p, pk_int q]
      exact s_ixS (line_of h) e1 (k.dat sm DA.str)
    · cases e
  · cases e
/-! built-in calls -/
def absF : List D → Option S
  | [.int i] => some (sI (if i < 0 then -i else i))
  | _ => none
def intF : List D → Option S
  | [.int i] => some (sI i)
  | [.bl b] => some (sI (if b then 1 else 0))
  | _ => none
def strF : List D → Option S
  | [.int i] => if i.natAbs.log2 < 1920 then some (.d (.str (toString i))) else none
  | _ => none
def lenF : List D → Option S
  | [.str z] => if z.length ≤ 100000 then some (sI z.length) else none
  | [.lst xs] => some (sI xs.length)
  | [.tup xs] => some (sI xs.length)
  | _ => none
def max2F : List D → Option S
  | [.int i, .int j] => some (sI (if j > i then j else i))
  | _ => none
def min2F : List D → Option S
  | [.int i, .int j] => some (sI (if j < i then j else i))
  | _ => none
def tupleF : List D → Option S
  | [.lst xs] => some (.d (.tup xs))
  | [.tup xs] => some (.d (.tup xs))
  | _ => none
def listF : List D → Option S
  | [.lst xs] => some (.L xs)
  | [.tup xs] => some (.L xs)
  | _ => none
def blsOf : List D → Option (List Bool)
  | [] => some []
  | .bl b :: xs => (blsOf xs).map fun bs => b :: bs
  | _ => none
def intsOf : List D → Option (List Int)
  | [] => some []
  | .int b :: xs => (intsOf xs).map fun bs => b :: bs
  | _ => none
def allF : List D → Option S
  | [.lst xs] => (blsOf xs).map fun bs => sB (bs.all id)
  | _ => none
def anyF : List D → Option S
  | [.lst xs] => (blsOf xs).map fun bs => sB (bs.any id)
  | _ => none
def sumF : List D → Option S
  | [.lst xs] => (intsOf xs).map fun bs => sI bs.sum
  | _ => none
theorem ok_abs : OkN Z (fun xs H Q => ∃ i, xs = [.int i] ∧ Q (.int (if i < 0 then -i else i)) H) absF := fun F H xs vs s Q sm p e k => by
  unfold absF at e; split at e
  · cases e; obtain ⟨v, rfl, h⟩ := pks_one p; exact ⟨_, by rw [pk_int h], k.dat sm DA.int⟩
  · cases e
theorem ok_int : OkN Z (fun xs H Q => (∃ i, xs = [.int i] ∧ Q (.int i) H) ∨ ∃ k, xs = [.bl k] ∧ Q (.int (if k then 1 else 0)) H) intF := fun F H xs vs s Q sm p e k => by
  unfold intF at e; split at e
  · cases e; obtain ⟨v, rfl, h⟩ := pks_one p; exact .inl ⟨_, by rw [pk_int h], k.dat sm DA.int⟩
  · cases e; obtain ⟨v, rfl, h⟩ := pks_one p; exact .inr ⟨_, by rw [pk_bl h], k.dat sm DA.int⟩
  · cases e
theorem ok_str : OkN Z (fun xs H Q => ∃ i : Int, xs = [.int i] ∧ i.natAbs.log2 < 1920 ∧ Q (.str (toString i)) H) strF := fun F H xs vs s Q sm p e k => by
  unfold strF at e; split at e
  · split at e
    · rename_i h0; cases e; obtain ⟨v, rfl, h⟩ := pks_one p; exact ⟨_, by rw [pk_int h], h0, k.dat sm DA.str⟩
    · cases e
  · cases e
theorem ok_len : OkN Z (rLenA Z.K.K) lenF := fun F H xs vs s Q sm p e k => by
  unfold lenF at e; split at e
  · split at e
    · rename_i h0; cases e; obtain ⟨v, rfl, h⟩ := pks_one p; rw [pk_str h]; exact s_lenS (line_of h0) (k.dat sm DA.int)
    · cases e
  · cases e; obtain ⟨v, rfl, h⟩ := pks_one p; obtain ⟨a, ws, rfl, h1, h2⟩ := h.lst'; exact s_lenL h1 (by rw [h2.length]; exact k.dat sm DA.int)
  · cases e; obtain ⟨v, rfl, h⟩ := pks_one p; obtain ⟨a, ws, rfl, h1, h2⟩ := h.tup'; exact s_lenT h1 (by rw [h2.length]; exact k.dat sm DA.int)
  · cases e
theorem ok_tuple : OkN Z (rTupOf Z.K.K) tupleF := fun F H xs vs s Q sm p e k => by
  unfold tupleF at e; split at e
  · cases e; obtain ⟨v, rfl, h⟩ := pks_one p; obtain ⟨a, ws, rfl, h1, h2⟩ := h.lst'; exact s_tupL h1 fun l n => k.tup sm h2 l n
  · cases e; obtain ⟨v, rfl, h⟩ := pks_one p; have hf := h.tupF; obtain ⟨a, ws, rfl, h1, h2⟩ := h.tup'; exact s_tupT h1 (k.dat sm hf)
  · cases e
theorem ok_list : OkN Z (rLstOf Z.K.K) listF := fun F H xs vs s Q sm p e k => by
  unfold listF at e; split at e
  · cases e; obtain ⟨v, rfl, h⟩ := pks_one p; obtain ⟨a, ws, rfl, h1, h2⟩ := h.lst'; exact s_lstL h1 fun l n => k.L sm h2 l n
  · cases e; obtain ⟨v, rfl, h⟩ := pks_one p; obtain ⟨a, ws, rfl, h1, h2⟩ := h.tup'; exact s_lstT h1 fun l n => k.L sm h2 l n
  · cases e
theorem bls_v {K : Kt} : ∀ {xs : List D} {vs : List V} {bs : List Bool}, blsOf xs = some bs → DAs K F xs vs → vs = bs.map V.bl
  | [], vs, bs, e, h => by cases e; rw [h.nil']; rfl
  | x :: xs, vs, bs, e, h => by
    obtain ⟨v, r, rfl, h1, h2⟩ := h.cons'
    cases x with
    | bl b =>
      obtain ⟨cs, e1, rfl⟩ := Option.map_eq_some_iff.mp (show (blsOf xs).map (fun bs => b :: bs) = some bs from e)
      rw [da_bl h1, bls_v e1 h2]; rfl
    | _ => cases e
theorem ints_v {K : Kt} : ∀ {xs : List D} {vs : List V} {bs : List Int}, intsOf xs = some bs → DAs K F xs vs → vs = bs.map V.int
  | [], vs, bs, e, h => by cases e; rw [h.nil']; rfl
  | x :: xs, vs, bs, e, h => by
    obtain ⟨v, r, rfl, h1, h2⟩ := h.cons'
    cases x with
    | int b =>
      obtain ⟨cs, e1, rfl⟩ := Option.map_eq_some_iff.mp (show (intsOf xs).map (fun bs => b :: bs) = some bs from e)
      rw [da_int h1, ints_v e1 h2]; rfl
    | _ => cases e
theorem ok_all : OkN Z (rAll Z.K.K) allF := fun F H xs vs s Q sm p e k => by
  unfold allF at e; split at e
  · obtain ⟨bs, e1, rfl⟩ := Option.map_eq_some_iff.mp e
    obtain ⟨v, rfl, h⟩ := pks_one p; obtain ⟨a, ws, rfl, h1, h2⟩ := h.lst'
    rw [bls_v e1 h2] at h1
    exact s_all h1 (k.dat sm DA.bl)
  · cases e
theorem ok_any : OkN Z (rAny Z.K.K) anyF := fun F H xs vs s Q sm p e k => by
  unfold anyF at e; split at e
  · obtain ⟨bs, e1, rfl⟩ := Option.map_eq_some_iff.mp e
    obtain ⟨v, rfl, h⟩ := pks_one p; obtain ⟨a, ws, rfl, h1, h2⟩ := h.lst'
    rw [bls_v e1 h2] at h1
    exact s_any h1 (k.dat sm DA.bl)
  · cases e
theorem ok_sum : OkN Z (rSum Z.K.K) sumF := fun F H xs vs s Q sm p e k => by
  unfold sumF at e; split at e
  · obtain ⟨bs, e1, rfl⟩ := Option.map_eq_some_iff.mp e
    obtain ⟨v, rfl, h⟩ := pks_one p; obtain ⟨a, ws, rfl, h1, h2⟩ := h.lst'
    rw [ints_v e1 h2] at h1
    exact s_sum h1 (k.dat sm DA.int)
  · cases e
end

section
variable {Z : Zt} {W : WX} {X : Cx} {F H F1 H1 : Hp} {σ : L2.St} {ρ ρ1 : En} {Q : VK}
/-! ### rules for expressions -/
theorem d_op {a b : Expr} {op : Operator} {pos : Pos} {r : R2} {f : D → D → Option S} {ha hb : En → Rs Hd} (o : OpR X (binaryOp op) r) (ok : Ok2 Z r f) (h1 : DO X Z W a ha) (h2 : DO X Z W b hb) : DF X Z W (.BinOp a op b pos) (op2 f ha hb) := ⟨pe_imp (pe_op o h1.pe h2.pe) (op2_in ok)⟩
theorem d_cmp {a b : Expr} {op : CmpOp} {pos : Pos} {r : R2} {f : D → D → Option S} {ha hb : En → Rs Hd} (o : OpR X (compareOp op) r) (ok : Ok2 Z r f) (h1 : DO X Z W a ha) (h2 : DO X Z W b hb) (hm : behindInMarks op b = false) : DF X Z W (.Compare a [op] [b] pos) (op2 f ha hb) := ⟨pe_imp (pe_cmpR o h1.pe h2.pe hm) (op2_in ok)⟩
/-- a test by a bool -/
def asB (m : En → Rs S) : En → Rs Bool := fun ρ => (m ρ).bind fun s ρ' => match s with
  | .d (.bl b) => .ok b ρ'
  | _ => .stuck
theorem asB_in {m : En → Rs S} : ∀ σ H (R : Bool → Hp → Prop), dT Z W (asB m) σ H R → dF Z W m σ H fun x H' => ∃ b, x = .bl b ∧ R b H' := fun σ H R ⟨F, ρ, ea, q⟩ => ⟨F, ρ, ea, by
  unfold asB at q
  cases r : m ρ with
  | stuck => rw [r] at q; exact q
  | exc c xs ρ' => rw [r] at q; exact q
  | ok s ρ1 =>
    rw [r, Rs.bind_ok] at q
    intro F' H' st e v ra
    split at q
    · rename_i b
      obtain ⟨w, hw, dw⟩ := ra.1
      cases hw
      exact ⟨b, da_bl dw, q F' H' st e⟩
    · exact q.elim⟩
theorem t_cmp {a b : Expr} {op : CmpOp} {pos : Pos} {r : R2} {f : D → D → Option S} {ha hb : En → Rs Hd} (o : OpR X (compareOp op) r) (ok : Ok2 Z r f) (h1 : DO X Z W a ha) (h2 : DO X Z W b hb) (hm : behindInMarks op b = false) : DT X Z W (.Compare a [op] [b] pos) (asB (op2 f ha hb)) := ⟨pt_imp (pt_cmpR o h1.pe h2.pe hm) fun σ H R q => op2_in ok σ H _ (asB_in σ H R q)⟩
theorem t_val {e : Expr} {m : En → Rs S} (h : DF X Z W e m) (hv : ∀ whole : Sem Value, PySem.isTrue e X.env whole = (do let v ← whole; standAt e.pos; holding [v] (truthy v)) := by first | exact fun _ => rfl | (intro _; rfl)) : DT X Z W e (asB m) := ⟨pt_imp (pt_val h.pe hv) fun σ H R q => asB_in σ H R q⟩
/-- the truth of any thing -/
def truD : D → Option Bool
  | .non => some false
  | .bl b => some b
  | .int i => some (i != 0)
  | .str y => if y.length ≤ 100000 then some ((y.length : Int) != 0) else none
  | .lst xs => some (!xs.isEmpty)
  | .tup xs => some (!xs.isEmpty)
  | _ => none
def asT (h : En → Rs Hd) : En → Rs Bool := fun ρ => (h ρ).bind fun a ρ' => Rs.opt (a.res ρ') fun x => Rs.opt (truD x) fun b => .ok b ρ'
theorem truD_ok {K : Kt} {x : D} {v : V} {b : Bool} (p : Pk K F H x v) (e : truD x = some b) : TruV K.K v H b := by
  have em : ∀ {xs : List D} {vs : List V}, DAs K F xs vs → (!xs.isEmpty) = !vs.isEmpty := fun {xs vs} h => by
    cases xs with
    | nil => rw [h.nil']; rfl
    | cons => obtain ⟨v, r, rfl, _⟩ := h.cons'; rfl
  cases x with
  | non => cases e; rw [pk_non p]; rfl
  | bl b => cases e; rw [pk_bl p]; rfl
  | int i => cases e; rw [pk_int p]; rfl
  | str y =>
    simp only [truD] at e
    split at e
    · rename_i h; cases e; rw [pk_str p]; exact ⟨line_of h, rfl⟩
    · cases e
  | lst xs => cases e; obtain ⟨a, vs, rfl, h1, h2⟩ := p; exact .inl ⟨vs, h1, em h2⟩
  | tup xs => cases e; obtain ⟨a, vs, rfl, h1, h2, _⟩ := p; exact .inr (.inl ⟨vs, h1, em h2⟩)
  | _ => cases e
theorem t_tru {e : Expr} {h : En → Rs Hd} (he : DO X Z W e h) (hk : X.K = Z.K.K := by rfl) (hv : ∀ whole : Sem Value, PySem.isTrue e X.env whole = (do let v ← whole; standAt e.pos; holding [v] (truthy v)) := by first | exact fun _ => rfl | (intro _; rfl)) : DT X Z W e (asT h) := ⟨pt_imp (pt_truthR he.pe tru_ok hv) fun σ H R ⟨F, ρ, ea, q⟩ => ⟨F, ρ, ea, q.bind.mono fun a ρ' F' H' st e p v hv => by
  obtain ⟨x, ex, p⟩ := p.opt
  obtain ⟨b, eb, p⟩ := p.opt
  exact ⟨b, hk ▸ truD_ok (hv.pk e ex) eb, p.here e⟩⟩⟩
def notT (m : En → Rs Bool) : En → Rs Bool := fun ρ => (m ρ).bind fun b ρ' => .ok (!b) ρ'
def andT (m k : En → Rs Bool) : En → Rs Bool := fun ρ => (m ρ).bind fun b ρ' => if b = true then k ρ' else .ok false ρ'
def orT (m k : En → Rs Bool) : En → Rs Bool := fun ρ => (m ρ).bind fun b ρ' => if b = true then .ok true ρ' else k ρ'
theorem t_not {a : Expr} {pos : Pos} {m : En → Rs Bool} (h : DT X Z W a m) : DT X Z W (.UnaryOp .Not a pos) (notT m) := ⟨pt_imp (pt_not h.pt) fun σ H R ⟨F, ρ, ea, q⟩ => ⟨F, ρ, ea, q.bind.mono fun b ρ' F' H' st e p => p.here e⟩⟩
structure DW (X : Cx) (Z : Zt) (W : WX) (e : Expr) (m : En → Rs Bool) : Prop where
  pw : PW X e (dT Z W m)
theorem pw_imp {e : Expr} {t t' : TT} (h : PW X e t) (i : ∀ σ H Q, t' σ H Q → t σ H Q) : PW X e t' := ⟨fun wh pins s σ H Q I z => h.run wh pins s σ H Q I (i σ H Q z)⟩
theorem DW.t {e : Expr} {m : En → Rs Bool} (h : DW X Z W e m) : DT X Z W e m := ⟨h.pw.pt⟩
theorem w_and1 {a : Expr} {pos : Pos} {m : En → Rs Bool} (h : DT X Z W a m) : DW X Z W (.BoolOp .And [a] pos) m := ⟨pw_and1 h.pt⟩
theorem w_or1 {a : Expr} {pos : Pos} {m : En → Rs Bool} (h : DT X Z W a m) : DW X Z W (.BoolOp .Or [a] pos) m := ⟨pw_or1 h.pt⟩
theorem w_and {a b : Expr} {rest : List Expr} {pos : Pos} {m k : En → Rs Bool} (h : DT X Z W a m) (t : DW X Z W (.BoolOp .And (b :: rest) pos) k) : DW X Z W (.BoolOp .And (a :: b :: rest) pos) (andT m k) := ⟨pw_imp (pw_and h.pt t.pw) fun σ H R ⟨F, ρ, ea, q⟩ => ⟨F, ρ, ea, q.bind.mono fun b ρ' F' H' st e p => by
  cases b with
  | true => rw [if_pos rfl] at p ⊢; exact ⟨F', ρ', e, p⟩
  | false => rw [if_neg Bool.false_ne_true] at p ⊢; exact p.here e⟩⟩
theorem w_or {a b : Expr} {rest : List Expr} {pos : Pos} {m k : En → Rs Bool} (h : DT X Z W a m) (t : DW X Z W (.BoolOp .Or (b :: rest) pos) k) : DW X Z W (.BoolOp .Or (a :: b :: rest) pos) (orT m k) := ⟨pw_imp (pw_or h.pt t.pw) fun σ H R ⟨F, ρ, ea, q⟩ => ⟨F, ρ, ea, q.bind.mono fun b ρ' F' H' st e p => by
  cases b with
  | true => rw [if_pos rfl] at p ⊢; exact p.here e
  | false => rw [if_neg Bool.false_ne_true] at p ⊢; exact ⟨F', ρ', e, p⟩⟩⟩
def notV (m : En → Rs D) : En → Rs D := fun ρ => (m ρ).bind fun x ρ' => match x with | .bl b => .ok (.bl (!b)) ρ' | _ => .stuck
def andV (m k : En → Rs D) : En → Rs D := fun ρ => (m ρ).bind fun x ρ' => match x with | .bl b => if b = true then k ρ' else .ok (.bl false) ρ' | _ => .stuck
def orV (m k : En → Rs D) : En → Rs D := fun ρ => (m ρ).bind fun x ρ' => match x with | .bl b => if b = true then .ok (.bl true) ρ' else k ρ' | _ => .stuck
theorem d_not {a : Expr} {pos : Pos} {m : En → Rs D} (h : DE X Z W a m) : DE X Z W (.UnaryOp .Not a pos) (notV m) := ⟨pe_imp (pe_not h.pe) fun σ H R ⟨F, ρ, ea, q⟩ => ⟨F, ρ, ea, q.bind.mono fun x ρ' F' H' st e p v hv => by
  split at p
  · rename_i b; exact ⟨b, da_bl hv, p.here e _ DA.bl⟩
  · exact p.elim⟩⟩
theorem d_one {a : Expr} {op : BoolOp} {pos : Pos} {m : En → Rs D} (h : DE X Z W a m) : DE X Z W (.BoolOp op [a] pos) m := ⟨pe_one h.pe⟩
theorem d_and {a b : Expr} {rest : List Expr} {pos : Pos} {m k : En → Rs D} (h : DE X Z W a m) (t : DE X Z W (.BoolOp .And (b :: rest) pos) k) : DE X Z W (.BoolOp .And (a :: b :: rest) pos) (andV m k) := ⟨pe_imp (pe_and h.pe t.pe) fun σ H R ⟨F, ρ, ea, q⟩ => ⟨F, ρ, ea, q.bind.mono fun x ρ' F' H' st e p v hv => by
  split at p
  · rename_i b
    refine ⟨b, da_bl hv, ?_⟩
    cases b with
    | true => rw [if_pos rfl] at p ⊢; exact ⟨F', ρ', e, p⟩
    | false => rw [if_neg Bool.false_ne_true] at p ⊢; exact p.here e _ DA.bl
  · exact p.elim⟩⟩
theorem d_or {a b : Expr} {rest : List Expr} {pos : Pos} {m k : En → Rs D} (h : DE X Z W a m) (t : DE X Z W (.BoolOp .Or (b :: rest) pos) k) : DE X Z W (.BoolOp .Or (a :: b :: rest) pos) (orV m k) := ⟨pe_imp (pe_or h.pe t.pe) fun σ H R ⟨F, ρ, ea, q⟩ => ⟨F, ρ, ea, q.bind.mono fun x ρ' F' H' st e p v hv => by
  split at p
  · rename_i b
    refine ⟨b, da_bl hv, ?_⟩
    cases b with
    | true => rw [if_pos rfl] at p ⊢; exact p.here e _ DA.bl
    | false => rw [if_neg Bool.false_ne_true] at p ⊢; exact ⟨F', ρ', e, p⟩
  · exact p.elim⟩⟩
def ifE (c : En → Rs Bool) (m k : En → Rs D) : En → Rs D := fun ρ => (c ρ).bind fun b ρ' => if b = true then m ρ' else k ρ'
theorem d_ifE {a b c : Expr} {pos : Pos} {mc : En → Rs Bool} {m k : En → Rs D} (hc : DT X Z W c mc) (ha : DE X Z W a m) (hb : DE X Z W b k) : DE X Z W (.IfExp c a b pos) (ifE mc m k) := ⟨pe_imp (pe_ifExp hc.pt ha.pe hb.pe) fun σ H R ⟨F, ρ, ea, q⟩ => ⟨F, ρ, ea, q.bind.mono fun b ρ' F' H' st e p => by
  cases b with
  | true => rw [if_pos rfl] at p ⊢; exact ⟨F', ρ', e, p⟩
  | false => rw [if_neg Bool.false_ne_true] at p ⊢; exact ⟨F', ρ', e, p⟩⟩⟩
/-! chains a < b < c -/
def chn (f f' : D → D → Option S) (h1 h2 h3 : En → Rs Hd) : En → Rs S := fun ρ => (h1 ρ).bind fun a ρ1 => (h2 ρ1).bind fun b ρ2 => Rs.opt (a.res ρ2) fun x => Rs.opt (b.res ρ2) fun y => match f x y with
  | some (.d (.bl true)) => (h3 ρ2).bind fun c ρ3 => Rs.opt (b.res ρ3) fun y' => Rs.opt (c.res ρ3) fun z => match f' y' z with
    | some (.d (.bl k)) => .ok (sB k) ρ3
    | _ => .stuck
  | some (.d (.bl false)) => .ok (sB false) ρ2
  | _ => .stuck
theorem chn_in {f f' : D → D → Option S} {r r' : R2} {h1 h2 h3 : En → Rs Hd} (ok : Ok2 Z r f) (ok' : Ok2 Z r' f') : ∀ σ H Q, dF Z W (chn f f' h1 h2 h3) σ H Q → tChain r r' (dO Z W h1) (dO Z W h2) (dO Z W h3) σ H Q := fun σ H Q ⟨F, ρ, ea, q⟩ =>
  ⟨F, ρ, ea, q.bind.mono fun a ρ1 F1 H1 st1 e1 q v hv => ⟨F1, ρ1, e1, q.bind.mono fun b ρ2 F2 H2 st2 e2 q w hw => by
    obtain ⟨x, ex, q⟩ := q.opt
    obtain ⟨y, ey, q⟩ := q.opt
    have stuck : ∀ {k : Bool}, f x y = some (.d (.bl k)) → (∀ F' H', Al F2 H2 F' H' → (if k = true then dO Z W h3 σ H' fun u H4 => r' w u H4 Q else Q (.bl false) H')) → r v w H2 fun z H3 => ∃ b, z = .bl b ∧ (if b = true then dO Z W h3 σ H3 fun u H4 => r' w u H4 Q else Q (.bl false) H3) := fun {k} ef kk =>
      ok F2 H2 x y v w _ _ e2.sub ((hv.mono st2.same).pk e2 ex) (hw.pk e2 ey) ef fun z F' H' al sl _ => by
        obtain ⟨u, hu, du⟩ := sl
        cases hu
        exact ⟨k, da_bl du, kk F' H' al⟩
    split at q
    · rename_i ef
      refine stuck ef fun F' H' al => (if_pos rfl).mpr ?_
      have q' : Sat Z W F' H' σ ρ2 _ _ := (Sat.mono (post' := fun c ρ3 F3 H3 => Stp Z F2 H2 σ ρ2 F3 H3 σ ρ3 ∧ Sat Z W F3 H3 σ ρ3 (Rs.opt (b.res ρ3) fun y' => Rs.opt (c.res ρ3) fun z => match f' y' z with
        | some (.d (.bl k)) => .ok (sB k) ρ3
        | _ => .stuck) fun s ρ' F' H' => ∀ v, RA Z H σ ρ F' H' ρ' v s → Q v H') q.bind fun c ρ3 F3 H3 s3 _ p => ⟨s3, p⟩).from_al al
      refine ⟨F', ρ2, e2.al al, q'.mono fun c ρ3 F3 H3 st3 e3 ⟨_, q⟩ u hu => ?_⟩
      obtain ⟨y', ey', q⟩ := q.opt
      obtain ⟨z, ez, q⟩ := q.opt
      split at q
      · rename_i k ef'
        exact ok' F3 H3 y' z w u _ Q e3.sub ((hw.mono (al.same.trans st3.same)).pk e3 ey') (hu.pk e3 ez) ef' (Po.back (((st1.trans st2).trans al.stp).trans st3) e3 q)
      · exact q.elim
    · rename_i ef
      refine stuck ef fun F' H' al => (if_neg Bool.false_ne_true).mpr ?_
      exact q F' H' al.stp (e2.al al) _ ⟨⟨_, rfl, DA.bl⟩, fun z => nomatch z⟩
    · exact q.elim⟩⟩
end

section
variable {Z : Zt} {W : WX} {X : Cx} {F H F1 H1 : Hp} {σ : L2.St} {ρ ρ1 : En} {Q : VK}
theorem d_chn {a b c : Expr} {op op' : CmpOp} {pos : Pos} {r r' : R2} {f f' : D → D → Option S} {h1 h2 h3 : En → Rs Hd} (o : OpR X (compareOp op) r) (o' : OpR X (compareOp op') r') (ok : Ok2 Z r f) (ok' : Ok2 Z r' f') (ha : DO X Z W a h1) (hb : DO X Z W b h2) (hc : DO X Z W c h3) (hm : lastMarks [op, op'] [b, c] = false := by rfl) :
    DF X Z W (.Compare a [op, op'] [b, c] pos) (chn f f' h1 h2 h3) := ⟨pe_imp (pe_chain o o' ha.pe hb.pe hc.pe hm) (chn_in ok ok')⟩
theorem t_chn {a b c : Expr} {op op' : CmpOp} {pos : Pos} {r r' : R2} {f f' : D → D → Option S} {h1 h2 h3 : En → Rs Hd} (o : OpR X (compareOp op) r) (o' : OpR X (compareOp op') r') (ok : Ok2 Z r f) (ok' : Ok2 Z r' f') (ha : DO X Z W a h1) (hb : DO X Z W b h2) (hc : DO X Z W c h3) (hm : lastMarks [op, op'] [b, c] = false := by rfl) :
    DT X Z W (.Compare a [op, op'] [b, c] pos) (asB (chn f f' h1 h2 h3)) := ⟨pt_imp (pt_chain o o' ha.pe hb.pe hc.pe hm) fun σ H R q => chn_in ok ok' σ H _ (asB_in σ H R q)⟩
/-! built-ins -/
theorem d_cb {x : Str} {p pos : Pos} {e : Expr} {es : List Expr} {g : En → Rs (List Hd)} {id : String} {r : List V → Hp → VK → Prop} {f : List D → Option S} (o : CallR X (.builtin id) r) (ok : OkN Z r f) (hg : Gl X x) (hm : X.mg x = none) (hb : bootBuiltins x = some (.builtin id)) (ha : DR X Z W (e :: es) g)
    (hn : x ≠ "__name__" := by decide) (hdb : NotDbg x := by decide) (he : StarOk X e es := by rfl) (hpl : NoStars X pos es := by rfl) :
    DF X Z W (.Call (.Name x p) (e :: es) [] pos) (opn f g) := ⟨pe_imp (pe_callB o hg hm hb ha.pa hn hdb he hpl) (opn_in ok)⟩
theorem d_cty {x : Str} {p pos : Pos} {e : Expr} {es : List Expr} {g : En → Rs (List Hd)} {T : String} {r : List V → Hp → VK → Prop} {f : List D → Option S} (o : CallR X (.type T) r) (ok : OkN Z r f) (hg : Gl X x) (hm : X.mg x = none) (hb : bootBuiltins x = some (.type T)) (ha : DR X Z W (e :: es) g)
    (hn : x ≠ "__name__" := by decide) (hdb : NotDbg x := by decide) (he : StarOk X e es := by rfl) (hpl : NoStars X pos es := by rfl) :
    DF X Z W (.Call (.Name x p) (e :: es) [] pos) (opn f g) := ⟨pe_imp (pe_callTy o hg hm hb ha.pa hn hdb he hpl) (opn_in ok)⟩
/-! displays: lists of data -/
def dL (Z : Zt) (W : WX) (m : En → Rs (List D)) : TA := fun σ H Q => ∃ F ρ, EA Z F H σ ρ ∧ Sat Z W F H σ ρ (m ρ) fun xs ρ' F' H' => ∀ vs, DAs Z.K F' xs vs → Q vs H'
structure DL (X : Cx) (Z : Zt) (W : WX) (es : List Expr) (m : En → Rs (List D)) : Prop where
  pa : L2.PA X es (dL Z W m)
def ls0 : En → Rs (List D) := fun ρ => .ok [] ρ
def lsc (m : En → Rs D) (g : En → Rs (List D)) : En → Rs (List D) := fun ρ => (m ρ).bind fun x ρ1 => (g ρ1).bind fun xs ρ2 => .ok (x :: xs) ρ2
theorem d_ls0 : DL X Z W [] ls0 := ⟨pa_imp pa_nil fun σ H Q ⟨F, ρ, ea, q⟩ => q.here ea [] DAs.nil⟩
theorem d_lsc {e : Expr} {es : List Expr} {m : En → Rs D} {g : En → Rs (List D)} (he : DE X Z W e m) (hg : DL X Z W es g) (hs : StarOk X e es := by rfl) : DL X Z W (e :: es) (lsc m g) :=
  ⟨pa_imp (pa_cons he.pe hg.pa hs) fun σ H Q ⟨F, ρ, ea, q⟩ => ⟨F, ρ, ea, q.bind.mono fun x ρ1 F1 H1 st e1 q v hv => ⟨F1, ρ1, e1, q.bind.mono fun xs ρ2 F2 H2 st2 e2 q vs hvs => q.here e2 (v :: vs) (.cons (hv.mono st2.same) hvs)⟩⟩⟩
def tupG (g : En → Rs (List D)) : En → Rs S := fun ρ => (g ρ).bind fun xs ρ' => if xs.length ≤ 1000 then .ok (.d (.tup xs)) ρ' else .stuck
def lstG (g : En → Rs (List D)) : En → Rs S := fun ρ => (g ρ).bind fun xs ρ' => if xs.length ≤ 1000 then .ok (.L xs) ρ' else .stuck
theorem d_tup {es : List Expr} {k : Nat} {pos : Pos} {g : En → Rs (List D)} (h : DL X Z W es g) : DF X Z W (.Tuple es k pos) (tupG g) := ⟨pe_imp (pe_tup h.pa) fun σ H Q ⟨F, ρ, ea, q⟩ => ⟨F, ρ, ea, q.bind.mono fun xs ρ' F' H' st e p vs hv => by
  split at p
  · rename_i hl
    exact ⟨by rw [hv.length]; exact Nat.le_trans hl (by rw [sizeLine_eq]; decide), fun a n => (Po.back st e p).tup e.sub hv a n⟩
  · exact p.elim⟩⟩
theorem d_lst {es : List Expr} {pos : Pos} {g : En → Rs (List D)} (h : DL X Z W es g) : DF X Z W (.List es pos) (lstG g) := ⟨pe_imp (pe_lst h.pa) fun σ H Q ⟨F, ρ, ea, q⟩ => ⟨F, ρ, ea, q.bind.mono fun xs ρ' F' H' st e p vs hv => by
  split at p
  · rename_i hl
    exact ⟨by rw [hv.length]; exact Nat.le_trans hl (by rw [sizeLine_eq]; decide), fun a n => (Po.back st e p).L e.sub hv a n⟩
  · exact p.elim⟩⟩
/-! ### what is one's own is changed -/
theorem mutO (e : EA Z F H σ ρ) {i : Nat} {s s' : S} {a : Addr} {o : HO} (hs : ρ[i]? = some s) (so : s.own = true) (ha : σ[i]? = some (some (.ref a))) (h' : SlA Z F (upd H a o) (some (.ref a)) s') : EA Z F (upd H a o) σ (ρ.set i s') ∧ Stp Z F H σ ρ F (upd H a o) σ (ρ.set i s') := by
  have oi : OwnI σ ρ i a := ⟨ha, s, hs, so⟩
  obtain ⟨fa, u, hu⟩ := e.ownF oi
  have e1 : EA Z F (upd H a o) σ (ρ.set i .un) := by
    have e0 : EA Z F H σ (ρ.set i .un) := e.set trivial fun z => nomatch z
    refine ⟨fun b w h => by rw [upd_ne fun z => by rw [z, fa] at h; cases h]; exact e.sub _ _ h, e0.len, fun j t h => (e0.sl j t h).mono (Same.refl _) fun b w hb ho hu hf => ⟨?_, hf⟩, e0.dis⟩
    rw [upd_ne]
    · exact hu
    · intro z
      subst z
      have oj : OwnI σ (ρ.set i .un) j b := ⟨join_some hb, t, h, ho⟩
      rcases ownI_set oj with ⟨_, q, _⟩ | ⟨c, q⟩
      · cases q
      · exact c (e.dis j i b q oi)
  have e2 := e1.set (i := i) (s := s') (by rw [ha]; exact h') (fun so' b hb j hj z => by
    rcases ownI_set z with ⟨_, q, _⟩ | ⟨c, q⟩
    · cases q
    · rw [ha] at hb; cases hb; exact c (e.dis j i a q oi))
  rw [List.set_set] at e2
  refine ⟨e2, Same.refl _, fun b h => .inl h, fun b w h n => by rw [upd_ne fun z : b = a => n i (by rw [z]; exact oi)]; exact h, fun j b h => ?_, fun _ _ _ => rfl, Nat.le_refl _⟩
  rcases ownI_set h with ⟨rfl, _, q⟩ | ⟨c, q⟩
  · exact .inl ⟨j, q, s, hs, so⟩
  · exact .inl ⟨j, q⟩
theorem ownL (e : EA Z F H σ ρ) {i : Nat} {xs : List D} (h : ρ[i]? = some (.L xs)) : ∃ a vs, σ[i]? = some (some (.ref a)) ∧ F a = none ∧ H a = some (.lst vs) ∧ DAs Z.K F xs vs := by
  obtain ⟨a, vs, h1, h2, h3, h4⟩ := e.sl i _ h
  exact ⟨a, vs, join_some h1, h2, h3, h4⟩
/-- a list of one's own in slot i, changed by a method without arguments -/
def mut0 (i : Nat) (f : List D → Option (List D × D)) : En → Rs S := fun ρ => match ρ[i]? with
  | some (.L xs) => Rs.opt (f xs) fun p => .ok (.d p.2) (ρ.set i (.L p.1))
  | _ => .stuck
/-- .. with one argument -/
def mut1 (i : Nat) (f : List D → D → Option (List D × D)) (m : En → Rs D) : En → Rs S := fun ρ => match ρ[i]? with
  | some (.L _) => (m ρ).bind fun x ρ1 => match ρ1[i]? with
    | some (.L xs) => Rs.opt (f xs x) fun p => .ok (.d p.2) (ρ1.set i (.L p.1))
    | _ => .stuck
  | _ => .stuck
def OkM1 (Z : Zt) (r : V → List V → Hp → VK → Prop) (f : List D → D → Option (List D × D)) : Prop := ∀ F H a vs xs x w p (Q : VK), Same F H → H a = some (.lst vs) → DAs Z.K F xs vs → DA Z.K F x w → f xs x = some p → (∀ u ws, DA Z.K F p.2 u → DAs Z.K F p.1 ws → Q u (upd H a (.lst ws))) → r (.ref a) [w] H Q
def OkM0 (Z : Zt) (r : V → List V → Hp → VK → Prop) (f : List D → Option (List D × D)) : Prop := ∀ F H a vs xs p (Q : VK), Same F H → H a = some (.lst vs) → DAs Z.K F xs vs → f xs = some p → (∀ u ws, DA Z.K F p.2 u → DAs Z.K F p.1 ws → Q u (upd H a (.lst ws))) → r (.ref a) [] H Q
theorem mut1_in {i : Nat} {f : List D → D → Option (List D × D)} {m : En → Rs D} {r : V → List V → Hp → VK → Prop} (ok : OkM1 Z r f) : ∀ σ H Q, dF Z W (mut1 i f m) σ H Q → tBM Z.K.K "list" r (tVar i) (dL Z W (lsc m ls0)) σ H Q := fun σ H Q ⟨F, ρ, ea, q⟩ => by
  unfold mut1 at q
  split at q
  · rename_i xs0 h0
    obtain ⟨a, vs0, ha, _, hH, _⟩ := ownL ea h0
    refine ⟨.ref a, ha, .inl ⟨rfl, vs0, SqL.of hH⟩, F, ρ, ea, ?_⟩
    unfold lsc
    revert q
    cases hm : m ρ with
    | stuck => exact fun z => z
    | exc => exact fun z => z
    | ok x ρ1 =>
      intro q F1 H1 st e1 ws0 hw
      obtain ⟨w, r0, rfl, hx, hr⟩ := hw.cons'
      rw [hr.nil']
      simp only [Rs.bind_ok] at q
      split at q
      · rename_i xs h1
        obtain ⟨a', vs, ha', fa, hH1, hd⟩ := ownL e1 h1
        rw [ha] at ha'; cases ha'
        obtain ⟨p, ep, q⟩ := q.opt
        refine ok F1 H1 a vs xs x w p Q e1.sub hH1 hd hx ep fun u ws hu hws => ?_
        obtain ⟨e2, s2⟩ := mutO (s' := .L p.1) (o := .lst ws) e1 h1 rfl ha ⟨a, ws, rfl, fa, upd_same, hws⟩
        exact q F1 _ (st.trans s2) e2 u ⟨⟨u, rfl, hu⟩, fun z => nomatch z⟩
      · exact q.elim
  · exact q.elim
theorem mut0_in {i : Nat} {f : List D → Option (List D × D)} {r : V → List V → Hp → VK → Prop} (ok : OkM0 Z r f) : ∀ σ H Q, dF Z W (mut0 i f) σ H Q → tBM0 Z.K.K "list" r (tVar i) σ H Q := fun σ H Q ⟨F, ρ, ea, q⟩ => by
  unfold mut0 at q
  split at q
  · rename_i xs h0
    obtain ⟨a, vs, ha, fa, hH, hd⟩ := ownL ea h0
    obtain ⟨p, ep, q⟩ := q.opt
    refine ⟨.ref a, ha, .inl ⟨rfl, vs, SqL.of hH⟩, ok F H a vs xs p Q ea.sub hH hd ep fun u ws hu hws => ?_⟩
    obtain ⟨e2, s2⟩ := mutO (s' := .L p.1) (o := .lst ws) ea h0 rfl ha ⟨a, ws, rfl, fa, upd_same, hws⟩
    exact q F _ s2 e2 u ⟨⟨u, rfl, hu⟩, fun z => nomatch z⟩
  · exact q.elim
def appF (xs : List D) (x : D) : Option (List D × D) := if xs.length < 100000 then some (xs ++ [x], .non) else none
def popF (xs : List D) : Option (List D × D) := (xs[xs.length - 1]?).map fun x => (xs.dropLast, x)
def revF (xs : List D) : Option (List D × D) := some (xs.reverse, .non)
def clrF (xs : List D) : Option (List D × D) := some ([], .non)
theorem ok_app : OkM1 Z rAppend appF := fun F H a vs xs x w p Q sm hH hd hx e k => by
  unfold appF at e
  split at e
  · rename_i h; cases e
    exact ⟨a, vs, w, rfl, rfl, hH, by rw [hd.length]; exact line_lt (by omega), k _ _ DA.non (hd.append (.cons hx .nil))⟩
  · cases e
theorem das_dropLast {K : Kt} : ∀ {xs : List D} {vs : List V}, DAs K F xs vs → DAs K F xs.dropLast vs.dropLast := fun {xs vs} h => by
  rw [List.dropLast_eq_take, List.dropLast_eq_take, h.length]; exact h.take _
theorem ok_pop : OkM0 Z rPop popF := fun F H a vs xs p Q sm hH hd e k => by
  obtain ⟨x, ex, rfl⟩ := Option.map_eq_some_iff.mp e
  obtain ⟨v, ev, hv⟩ := hd.get' ex
  exact ⟨a, vs, v, rfl, rfl, hH, by rw [hd.length]; exact ev, k _ _ hv (das_dropLast hd)⟩
theorem ok_rev : OkM0 Z rReverse revF := fun F H a vs xs p Q sm hH hd e k => by
  cases e; exact ⟨a, vs, rfl, rfl, hH, k _ _ DA.non hd.reverse⟩
theorem ok_clr : OkM0 Z rClear clrF := fun F H a vs xs p Q sm hH hd e k => by
  cases e; exact ⟨a, vs, rfl, rfl, hH, k _ _ DA.non .nil⟩
theorem d_mut1 {i : Nat} {e : Expr} {r : V → List V → Hp → VK → Prop} {f : List D → D → Option (List D × D)} {m : En → Rs D} (h : PE X e (tBM X.K "list" r (tVar i) (dL Z W (lsc m ls0)))) (ok : OkM1 Z r f) (hk : X.K = Z.K.K := by rfl) : DF X Z W e (mut1 i f m) := ⟨pe_imp h (hk ▸ mut1_in ok)⟩
theorem d_mut0 {i : Nat} {e : Expr} {r : V → List V → Hp → VK → Prop} {f : List D → Option (List D × D)} (h : PE X e (tBM0 X.K "list" r (tVar i))) (ok : OkM0 Z r f) (hk : X.K = Z.K.K := by rfl) : DF X Z W e (mut0 i f) := ⟨pe_imp h (hk ▸ mut0_in ok)⟩
/-! a[i] = x, of a list or a dict of one's own -/
def keyOf : D → Option Key
  | .int i => some (.inl i)
  | .str s => some (.inr s)
  | _ => none
def putM (ks : List Key) (xs : List D) (k : Key) (x : D) : List Key × List D :=
  if ks.any (fun k' => decide (k' = k)) = true then (ks, (ks.zip xs).map fun kv => if kv.1 = k then x else kv.2) else (ks ++ [k], xs ++ [x])
def getM : List Key → List D → Key → Option D
  | k' :: ks, x :: xs, k => if k' = k then some x else getM ks xs k
  | _, _, _ => none
theorem get_zip {K : Kt} {k : Key} : ∀ {ks : List Key} {xs : List D} {vs : List V}, DAs K F xs vs → match getM ks xs k with | some x => ∃ v, valV (ks.zip vs) k = some v ∧ DA K F x v | none => valV (ks.zip vs) k = none
  | [], xs, vs, h => by simp [getM, valV]
  | k' :: ks, [], vs, h => by rw [h.nil']; simp [getM, valV]
  | k' :: ks, x :: xs, vs, h => by
    obtain ⟨v, r, rfl, h1, h2⟩ := h.cons'
    by_cases c : k' = k
    · simp only [getM, if_pos c]
      exact ⟨v, valV_pos c, h1⟩
    · simp only [getM, if_neg c]
      rw [List.zip_cons_cons, valV_neg c]
      exact get_zip h2
theorem any_zip {k : Key} : ∀ {ks : List Key} {vs : List V}, ks.length = vs.length → ((ks.zip vs).any fun kv => decide (kv.1 = k)) = ks.any fun k' => decide (k' = k)
  | [], _, _ => by simp
  | k' :: ks, [], h => by simp at h
  | k' :: ks, v :: vs, h => by simp only [List.zip_cons_cons, List.any_cons, any_zip (ks := ks) (vs := vs) (by simpa using h)]
theorem map_zip {K : Kt} {k : Key} {x : D} {w : V} (hx : DA K F x w) : ∀ {ks : List Key} {xs : List D} {vs : List V}, ks.length = xs.length → DAs K F xs vs → ∃ ws, (ks.zip vs).map (fun kv => if kv.1 = k then (kv.1, w) else kv) = ks.zip ws ∧ DAs K F ((ks.zip xs).map fun kv => if kv.1 = k then x else kv.2) ws ∧ ks.length = ws.length
  | [], [], vs, _, h => by rw [h.nil']; exact ⟨[], rfl, .nil, rfl⟩
  | [], _ :: _, _, l, _ => by simp at l
  | _ :: _, [], _, l, _ => by simp at l
  | k' :: ks, y :: ys, vs, l, h => by
    obtain ⟨v, r, rfl, h1, h2⟩ := h.cons'
    obtain ⟨ws, e1, e2, e3⟩ := map_zip (k := k) hx (ks := ks) (by simpa using l) h2
    by_cases c : k' = k
    · exact ⟨w :: ws, by simp [c, e1], by simpa [c] using .cons hx e2, by simp [e3]⟩
    · exact ⟨v :: ws, by simp [c, e1], by simpa [c] using .cons h1 e2, by simp [e3]⟩
theorem zip_app {ks : List Key} {vs : List V} {k : Key} {w : V} (h : ks.length = vs.length) : ks.zip vs ++ [(k, w)] = (ks ++ [k]).zip (vs ++ [w]) := by
  rw [List.zip_append h]; rfl
theorem put_zip {K : Kt} {k : Key} {x : D} {w : V} {ks : List Key} {xs : List D} {vs : List V} (hx : DA K F x w) (l : ks.length = xs.length) (h : DAs K F xs vs) : ∃ ws, putK (ks.zip vs) k w = (putM ks xs k x).1.zip ws ∧ DAs K F (putM ks xs k x).2 ws ∧ (putM ks xs k x).1.length = (putM ks xs k x).2.length := by
  have lv : ks.length = vs.length := by rw [l, h.length]
  unfold putK putM
  rw [any_zip lv]
  by_cases c : (ks.any fun k' => decide (k' = k)) = true
  · rw [if_pos c, if_pos c]
    obtain ⟨ws, e1, e2, e3⟩ := map_zip (k := k) hx l h
    exact ⟨ws, e1, e2, by simp [l]⟩
  · rw [if_neg c, if_neg c]
    exact ⟨vs ++ [w], zip_app lv, h.append (.cons hx .nil), by simp [l]⟩
/-- the store: the thing, the container's slot, the key -/
def sto (i : Nat) (mk mv : En → Rs D) : En → Ctl := fun ρ => (mv ρ).ctl fun x ρ1 => match ρ1[i]? with
  | some (.L _) => (mk ρ1).ctl fun k ρ2 => match ρ2[i]?, k with
    | some (.L xs), .int j => match ixN xs.length j with
      | some n => .nx (ρ2.set i (.L (xs.set n x)))
      | none => .stuck
    | _, _ => .stuck
  | _ => .stuck
def stoM (i : Nat) (mk mv : En → Rs D) : En → Ctl := fun ρ => (mv ρ).ctl fun x ρ1 => match ρ1[i]? with
  | some (.M _ _) => (mk ρ1).ctl fun k ρ2 => match ρ2[i]?, keyOf k with
    | some (.M ks xs), some k => if xs.length < 100000 then .nx (ρ2.set i (.M (putM ks xs k x).1 (putM ks xs k x).2)) else .stuck
    | _, _ => .stuck
  | _ => .stuck
theorem slot_ref (e : EA Z F H σ ρ) {i : Nat} {s : S} (h : ρ[i]? = some s) (o : s.own = true) : ∃ a, σ[i]? = some (some (.ref a)) := let ⟨a, h1, _⟩ := e.own h o; ⟨a, h1.1⟩
theorem sto_in {i : Nat} {mk mv : En → Rs D} : ∀ E σ H, dS Z W (sto i mk mv) E σ H → tAsg (dE Z W mv) (gSub (tVar i) (dE Z W mk) rSetL) E σ H := fun E σ H ⟨F, ρ, ea, q⟩ => ⟨F, ρ, ea, q.ctl.mono fun x ρ1 F1 H1 st e1 q v hv => by
  split at q
  · rename_i xs0 h0
    obtain ⟨a, ha⟩ := slot_ref e1 h0 rfl
    refine ⟨.ref a, ha, F1, ρ1, e1, q.ctl.mono fun k ρ2 F2 H2 st2 e2 q w hw => ?_⟩
    split at q
    · rename_i xs j h1
      obtain ⟨a', vs, ha', fa, hH, hd⟩ := ownL e2 h1
      rw [ha] at ha'; cases ha'
      split at q
      · rename_i n hn
        refine ⟨a, vs, j, n, rfl, da_int hw, hH, by rw [hd.length]; exact hn, ?_⟩
        obtain ⟨e3, s3⟩ := mutO (s' := .L (xs.set n x)) (o := .lst (vs.set n v)) e2 h1 rfl ha ⟨a, _, rfl, fa, upd_same, hd.set n (hv.mono st2.same)⟩
        exact q σ F2 _ s3 e3
      · exact q.elim
    · exact q.elim
  · exact q.elim⟩
theorem kV_of {K : Kt} {d : D} {k : Key} {v : V} (h : keyOf d = some k) (hv : DA K F d v) : v = kV k := by
  cases d with
  | int i => cases h; rw [da_int hv]; rfl
  | str i => cases h; rw [da_str hv]; rfl
  | _ => cases h
theorem stoM_in {i : Nat} {mk mv : En → Rs D} : ∀ E σ H, dS Z W (stoM i mk mv) E σ H → sDPut (tVar i) (dE Z W mk) (dE Z W mv) E σ H := fun E σ H ⟨F, ρ, ea, q⟩ => ⟨F, ρ, ea, q.ctl.mono fun x ρ1 F1 H1 st e1 q v hv => by
  split at q
  · rename_i ks0 xs0 h0
    obtain ⟨a, ha⟩ := slot_ref e1 h0 rfl
    refine ⟨.ref a, ha, F1, ρ1, e1, q.ctl.mono fun k ρ2 F2 H2 st2 e2 q w hw => ?_⟩
    split at q
    · rename_i ks xs k' h1 hk
      obtain ⟨a', vs, h2, fa, hH, l, hd⟩ := e2.sl i _ h1
      rw [join_some h2] at ha; cases ha
      split at q
      · rename_i hl
        obtain ⟨ws, ew, dw, lw⟩ := put_zip (k := k') (hv.mono st2.same) l hd
        refine ⟨a, _, rfl, .inl ⟨_, k', hH, kV_of hk hw, by simp [l, hd.length]; exact line_lt (by omega), rfl⟩, ?_⟩
        rw [ew]
        obtain ⟨e3, s3⟩ := mutO (s' := .M (putM ks xs k' x).1 (putM ks xs k' x).2) (o := .dK ((putM ks xs k' x).1.zip ws)) e2 h1 rfl (join_some h2) ⟨a, ws, rfl, fa, upd_same, lw, dw⟩
        exact q σ F2 _ s3 e3
      · exact q.elim
    · exact q.elim
  · exact q.elim⟩
theorem d_sto {i : Nat} {st : Stmt} {mk mv : En → Rs D} (h : PS X st (tAsg (dE Z W mv) (gSub (tVar i) (dE Z W mk) rSetL))) : DS X Z W st (sto i mk mv) := ⟨ps_imp h sto_in⟩
theorem d_stoM {i : Nat} {st : Stmt} {mk mv : En → Rs D} (h : PS X st (sDPut (tVar i) (dE Z W mk) (dE Z W mv))) : DS X Z W st (stoM i mk mv) := ⟨ps_imp h stoM_in⟩
/-! d[k] -/
def getF : D → D → Option S
  | .dct ks xs, k => (keyOf k).bind fun k => (getM ks xs k).map .d
  | _, _ => none
theorem dget_in {h1 h2 : En → Rs Hd} : ∀ σ H Q, dF Z W (op2 getF h1 h2) σ H Q → tDGet (dO Z W h1) (dO Z W h2) σ H Q := fun σ H Q ⟨F, ρ, ea, q⟩ =>
  ⟨F, ρ, ea, q.bind.mono fun a ρ1 F1 H1 st e1 q v hv => ⟨F1, ρ1, e1, q.bind.mono fun b ρ2 F2 H2 st2 e2 q w hw => by
    obtain ⟨x, ex, q⟩ := q.opt
    obtain ⟨y, ey, q⟩ := q.opt
    obtain ⟨s, es, q⟩ := q.opt
    have px := (hv.mono st2.same).pk e2 ex
    have py := hw.pk e2 ey
    cases x with
    | dct ks xs =>
      obtain ⟨k, ek, es⟩ := Option.bind_eq_some_iff.mp es
      obtain ⟨z, ez, rfl⟩ := Option.map_eq_some_iff.mp es
      obtain ⟨a, vs, rfl, hH, l, hd⟩ := px
      have hw' : w = kV k := by
        cases y with
        | int i => cases ek; rw [pk_int py]; rfl
        | str i => cases ek; rw [pk_str py]; rfl
        | _ => cases ek
      have g := get_zip (k := k) (ks := ks) hd
      rw [ez] at g
      obtain ⟨u, g1, g2⟩ := g
      exact ⟨a, u, rfl, .inl ⟨_, k, .inl hH, hw', g1.symm⟩, (Po.back (st.trans st2) e2 q).dat e2.sub g2⟩
    | _ => cases es⟩⟩
/-- by what the thing is -/
def ixF : D → D → Option S
  | .dct ks xs, k => getF (.dct ks xs) k
  | x, k => ixS x k
def isDct : D → Bool
  | .dct _ _ => true
  | _ => false
theorem ixF_dct {x k : D} (h : isDct x = true) : ixF x k = getF x k := by cases x <;> first | rfl | cases h
theorem ixF_seq {x k : D} (h : isDct x = false) : ixF x k = ixS x k := by cases x <;> first | rfl | cases h
theorem d_ix {a b : Expr} {pos : Pos} {h1 h2 : En → Rs Hd} (ha : DO X Z W a h1) (hb : DO X Z W b h2) (hp : PlainIx b) (hs : NoSl b) (hu : X.A.units + 1 < cLine) (hk : X.K = Z.K.K := by rfl) : DF X Z W (.Subscript a b pos) (op2 ixF h1 h2) := ⟨pe_imp (pe_orr (pe_ix (oIx Z.K.K hk) ha.pe hb.pe hp) (pe_dget hu ha.pe hb.pe hs)) fun σ H Q ⟨F, ρ, ea, q⟩ => by
  have key : ∀ f : D → D → Option S, op2 f h1 h2 ρ = op2 ixF h1 h2 ρ → Sat Z W F H σ ρ (op2 f h1 h2 ρ) (fun s ρ' F' H' => ∀ v, RA Z H σ ρ F' H' ρ' v s → Q v H') := fun f e => e ▸ q
  have unfo : ∀ (f : D → D → Option S) (c : Bool), (∀ a ρ1 b ρ2 x, h1 ρ = .ok a ρ1 → h2 ρ1 = .ok b ρ2 → a.res ρ2 = some x → isDct x = c) → (∀ x k, isDct x = c → ixF x k = f x k) → op2 f h1 h2 ρ = op2 ixF h1 h2 ρ := by
    intro f c hc hf
    unfold op2
    cases e1 : h1 ρ with
    | stuck => rfl
    | exc => rfl
    | ok a ρ1 =>
      simp only [Rs.bind_ok]
      cases e2 : h2 ρ1 with
      | stuck => rfl
      | exc => rfl
      | ok b ρ2 =>
        simp only [Rs.bind_ok]
        cases e3 : a.res ρ2 with
        | none => rfl
        | some x =>
          simp only [Rs.opt_some]
          cases e4 : b.res ρ2 with
          | none => rfl
          | some y => simp only [Rs.opt_some]; rw [hf x y (hc a ρ1 b ρ2 x e1 e2 e3)]
  by_cases d : ∃ a ρ1 b ρ2 x, h1 ρ = .ok a ρ1 ∧ h2 ρ1 = .ok b ρ2 ∧ a.res ρ2 = some x ∧ isDct x = true
  · refine .inr (dget_in σ H Q ⟨F, ρ, ea, key getF (unfo getF true (fun a ρ1 b ρ2 x e1 e2 e3 => ?_) fun x k => ixF_dct)⟩)
    obtain ⟨a', ρ1', b', ρ2', x', f1, f2, f3, f4⟩ := d
    rw [e1] at f1; cases f1
    rw [e2] at f2; cases f2
    rw [e3] at f3; cases f3
    exact f4
  · refine .inl (op2_in ok_ix σ H Q ⟨F, ρ, ea, key ixS (unfo ixS false (fun a ρ1 b ρ2 x e1 e2 e3 => ?_) fun x k => ixF_seq)⟩)
    cases c : isDct x with
    | false => rfl
    | true => exact absurd ⟨a, ρ1, b, ρ2, x, e1, e2, e3, c⟩ d⟩
/-! {k: v, ..} -/
inductive DPs (X : Cx) (Z : Zt) (W : WX) (pos : Pos) : List (Option Expr) → List Expr → List ((En → Rs D) × (En → Rs D)) → Prop where
  | nil : DPs X Z W pos [] [] []
  | cons {k v : Expr} {ks : List (Option Expr)} {vs : List Expr} {mk mv : En → Rs D} {r : List ((En → Rs D) × (En → Rs D))} : DE X Z W k mk → DE X Z W v mv → DPs X Z W pos ks vs r → DPs X Z W pos (some k :: ks) (v :: vs) ((mk, mv) :: r)
theorem DPs.pps {pos : Pos} : ∀ {ks : List (Option Expr)} {vs : List Expr} {r : List ((En → Rs D) × (En → Rs D))}, DPs X Z W pos ks vs r → PPs X pos ks vs (r.map fun p => (dE Z W p.1, dE Z W p.2))
  | _, _, _, .nil => pps_nil
  | _, _, _, .cons h1 h2 t => pps_cons h1.pe h2.pe t.pps
def prs : List ((En → Rs D) × (En → Rs D)) → En → Rs (List Key × List D)
  | [], ρ => .ok ([], []) ρ
  | (mk, mv) :: r, ρ => (mk ρ).bind fun k ρ1 => (mv ρ1).bind fun x ρ2 => (prs r ρ2).bind fun p ρ3 => Rs.opt (keyOf k) fun k => .ok (k :: p.1, x :: p.2) ρ3
theorem prs_in : ∀ (r : List ((En → Rs D) × (En → Rs D))) {σ : L2.St} {H : Hp} {F : Hp} {ρ : En} {P : List (V × V) → Hp → Prop} {post : (List Key × List D) → En → Hp → Hp → Prop}, EA Z F H σ ρ → Sat Z W F H σ ρ (prs r ρ) post → (∀ p ρ' F' H' vs, post p ρ' F' H' → p.1.length = p.2.length → DAs Z.K F' p.2 vs → P ((p.1.zip vs).map fun kv => (kV kv.1, kv.2)) H') → tPairs (r.map fun p => (dE Z W p.1, dE Z W p.2)) σ H P
  | [], σ, H, F, ρ, P, post, ea, q, k => k ([], []) ρ F H [] (q.here ea) rfl DAs.nil
  | (mk, mv) :: r, σ, H, F, ρ, P, post, ea, q, k => ⟨F, ρ, ea, q.bind.mono fun d ρ1 F1 H1 st e1 q v hv => ⟨F1, ρ1, e1, q.bind.mono fun x ρ2 F2 H2 st2 e2 q w hw => by
      refine prs_in r e2 q.bind.keep fun p ρ' F' H' vs ⟨s3, e3, q⟩ l h => ?_
      obtain ⟨k', ek, q⟩ := q.opt
      have hv' := kV_of ek hv
      have := k (k' :: p.1, x :: p.2) ρ' F' H' (w :: vs) (q.here e3) (by simp [l]) (.cons (hw.mono s3) h)
      rw [List.zip_cons_cons, List.map_cons, ← hv'] at this
      exact this⟩⟩
end

section
variable {Z : Zt} {W : WX} {X : Cx} {F H F1 H1 : Hp} {σ : L2.St} {ρ ρ1 : En} {Q : VK}
/-! ### {k: v, ..} -/
def dsp (r : List ((En → Rs D) × (En → Rs D))) : En → Rs S := fun ρ => (prs r ρ).bind fun p ρ' => if p.1.Nodup ∧ p.1.length ≤ 15 then .ok (.M p.1 p.2) ρ' else .stuck
theorem putK_new {kvs : List (Key × V)} {k : Key} {v : V} (h : k ∉ kvs.map (·.1)) : putK kvs k v = kvs ++ [(k, v)] := by
  unfold putK
  rw [if_neg]
  intro z
  obtain ⟨p, hp, e⟩ := List.any_eq_true.mp z
  have e : p.1 = k := of_decide_eq_true e
  exact h (e ▸ List.mem_map_of_mem (f := (·.1)) hp)
theorem merge_new : ∀ {more kvs : List (Key × V)}, ((kvs ++ more).map (·.1)).Nodup → mergeK kvs more = kvs ++ more
  | [], kvs, _ => by simp [mergeK]
  | p :: r, kvs, h => by
    have h1 : p.1 ∉ kvs.map (·.1) := fun z => by
      rw [List.map_append, List.map_cons] at h
      exact (List.nodup_append.mp h).2.2 _ z _ List.mem_cons_self rfl
    show mergeK (putK kvs p.1 p.2) r = _
    rw [putK_new h1, merge_new (by simpa [List.append_assoc] using h)]
    simp
theorem zip_fst {ks : List Key} {vs : List V} (h : ks.length = vs.length) : (ks.zip vs).map (·.1) = ks := by
  rw [List.map_fst_zip]; omega
theorem dsp_in {r : List ((En → Rs D) × (En → Rs D))} : ∀ σ H Q, dF Z W (dsp r) σ H Q → tDisp (r.map fun p => (dE Z W p.1, dE Z W p.2)) σ H Q := fun σ H Q ⟨F, ρ, ea, q⟩ p hp => by
  have al : Al F H F (upd H p (.dK [])) := Al.lay ea.sub hp _
  have fp : F p = none := ea.sub.free hp
  have e1 := ea.al al
  have n0 : ∀ i, ¬ OwnI σ ρ i p := fun i z => by obtain ⟨_, u, hu⟩ := ea.ownF z; rw [hp] at hu; cases hu
  have no : ¬ Ori (upd H p (.dK [])) σ ρ p := fun z => by
    rcases z with ⟨i, z⟩ | z
    · exact n0 i z
    · rw [upd_same] at z; cases z
  unfold dsp at q
  refine prs_in r e1 (post := fun a ρ' F' H' => prs r ρ = .ok a ρ' ∧ Stp Z F (upd H p (.dK [])) σ ρ F' H' σ ρ' ∧ EA Z F' H' σ ρ') ?_ fun kx ρ' F' H' vs ⟨hr, st, e⟩ l hd => ?_
  · cases hr : prs r ρ with
    | stuck => rw [hr] at q; exact q
    | exc c xs ρ' => rw [hr] at q; exact (Sat.from al.stp (r := (Rs.exc c xs ρ' : Rs S)) q)
    | ok a ρ' => exact fun F' H' s e => ⟨rfl, s, e⟩
  · rw [hr, Rs.bind_ok] at q
    have hk : H' p = some (.dK []) := st.keep p _ upd_same n0
    have fp' : F' p = none := by
      cases c : F' p with
      | none => rfl
      | some u =>
        rcases st.new p (by rw [c]; exact fun z => nomatch z) with y | y
        · exact absurd fp y
        · exact absurd y no
    refine ⟨hk, ?_⟩
    split at q
    · rename_i hn
      have lv : kx.1.length = vs.length := by rw [l, hd.length]
      refine ⟨kx.1.zip vs, rfl, by rw [List.length_zip, ← lv]; simp; exact hn.2, ?_⟩
      rw [merge_new (by rw [List.nil_append, zip_fst lv]; exact hn.1), List.nil_append]
      have n1 : ∀ i, ¬ OwnI σ ρ' i p := fun i z => no (st.own i p z)
      have e2 : EA Z F' (upd H' p (.dK (kx.1.zip vs))) σ ρ' := ⟨fun b u h => by rw [upd_ne fun z : b = p => by rw [z, fp'] at h; cases h]; exact e.sub _ _ h, e.len, fun i s h => (e.sl i s h).mono (Same.refl _) fun a u ho so hu hf => ⟨by rw [upd_ne fun z : a = p => n1 i ⟨by rw [← z]; exact join_some ho, s, h, so⟩]; exact hu, hf⟩, e.dis⟩
      have s0 := (al.stp (σ := σ) (ρ := ρ) (Z := Z)).trans st
      have s2 : Stp Z F H σ ρ F' (upd H' p (.dK (kx.1.zip vs))) σ ρ' := ⟨s0.same, s0.new, fun b o h n => by rw [upd_ne fun z : b = p => by rw [z, hp] at h; cases h]; exact s0.keep b o h n, s0.own, s0.par, s0.len⟩
      exact q F' _ s2 e2 (.ref p) ⟨⟨p, vs, rfl, fp', upd_same, l, hd⟩, fun _ a ha => by cases ha; exact ⟨.inr hp, n1⟩⟩
    · exact q.elim
theorem d_dsp {keys : List (Option Expr)} {values : List Expr} {pos : Pos} {r : List ((En → Rs D) × (En → Rs D))} (h : DPs X Z W pos keys values r) (hall : keys.all (·.isSome) = true := by rfl) (hl : keys.length = values.length := by rfl) (h0 : keys ≠ [] := by simp) (h15 : keys.length ≤ 15 := by simp) : DF X Z W (.Dict keys values pos) (dsp r) := ⟨pe_imp (pe_disp h.pps hall hl h0 h15) dsp_in⟩
def dsp0 : En → Rs S := fun ρ => .ok (.M [] []) ρ
theorem d_dsp0 {pos : Pos} : DF X Z W (.Dict [] [] pos) dsp0 := ⟨pe_imp pe_dnewK fun σ H Q ⟨F, ρ, ea, q⟩ p hp =>
  q F _ (Al.lay ea.sub hp _).stp (ea.al (Al.lay ea.sub hp _)) (.ref p) ⟨⟨p, [], rfl, ea.sub.free hp, by rw [List.zip_nil_right]; exact upd_same, rfl, DAs.nil⟩, fun _ a ha => by
    cases ha
    exact ⟨.inr hp, fun i z => by obtain ⟨_, u, hu⟩ := ea.ownF z; rw [hp] at hu; cases hu⟩⟩⟩
/-! ### fields -/
def fldF (cs : List (Nat × Nat)) : D → Option S
  | .obj c xs => (cs.lookup c).bind fun j => (xs[j]?).map .d
  | _ => none
/-- the classes with this field, and its place -/
def FOk (Z : Zt) (cs : List (Nat × Nat)) (f : Str) : Prop := ∀ c j, cs.lookup c = some j → ∃ nm fs, Z.K.ct[c]? = some (nm, fs) ∧ fs[j]? = some f ∧ fs.Nodup ∧ Cls Z.K.K (He.ga Z.K.K nm) ∧ NoAttr Z.K.K (He.ga Z.K.K nm) f
theorem zip_at {f : Str} : ∀ {fs : List Str} {vs : List V} {j : Nat} {v : V}, fs.Nodup → fs[j]? = some f → vs[j]? = some v → (fs.zip vs).lookup f = some v
  | [], _, _, _, _, h, _ => by simp at h
  | _ :: _, [], _, _, _, _, h => by simp at h
  | g :: fs, w :: vs, 0, v, n, h, h' => by simp at h h'; subst h h'; simp [List.lookup]
  | g :: fs, w :: vs, j + 1, v, n, h, h' => by
    have ne : f ≠ g := fun z => by
      subst z
      exact (List.nodup_cons.mp n).1 (List.mem_of_getElem? (by simpa using h))
    rw [List.zip_cons_cons, List.lookup_cons, beq_eq_false_iff_ne.mpr ne]
    exact zip_at (List.nodup_cons.mp n).2 (by simpa using h) (by simpa using h')
theorem ok_fld {cs : List (Nat × Nat)} {f : Str} (hc : FOk Z cs f) : Ok1 Z (fun x H Q => ∃ a C dx fs v, x = .ref a ∧ H a = some (.ins C dx fs) ∧ Cls Z.K.K C ∧ NoAttr Z.K.K C f ∧ fs.lookup f = some v ∧ Q v H) (fldF cs) := fun F H x v s Q sm p e k => by
  cases x with
  | obj c xs =>
    obtain ⟨j, e1, e⟩ := Option.bind_eq_some_iff.mp e
    obtain ⟨y, e2, rfl⟩ := Option.map_eq_some_iff.mp e
    obtain ⟨nm, fs, h1, h2, h3, h4, h5⟩ := hc c j e1
    obtain ⟨nm', fs', a, dx, vs, g1, rfl, g2, g3, g4⟩ := p
    rw [h1] at g1; cases g1
    obtain ⟨u, u1, u2⟩ := g4.get' e2
    exact ⟨a, _, dx, _, u, rfl, g2, h4, h5, zip_at h3 h2 u1, k.dat sm u2⟩
  | _ => cases e
theorem d_fld {e : Expr} {f : Str} {pos : Pos} {h : En → Rs Hd} {cs : List (Nat × Nat)} (he : DO X Z W e h) (hc : FOk Z cs f) (hk : X.K = Z.K.K := by rfl) (hb : attributeBase e f X.env (eval e X.env) = eval e X.env := by rfl) : DF X Z W (.Attribute e f pos) (op1 (fldF cs) h) := ⟨pe_imp (oFld Z.K.K he.pe hk hb) (op1_in (ok_fld hc))⟩
/-- self.f = e, the fields in their order -/
def stf (i c j : Nat) (m : En → Rs D) : En → Ctl := fun ρ => (m ρ).ctl fun x ρ1 => match ρ1[i]? with
  | some (.O c' xs) => if c' = c ∧ xs.length = j then .nx (ρ1.set i (.O c (xs ++ [x]))) else .stuck
  | _ => .stuck
theorem put_at {f : Str} {w : V} : ∀ {fs : List Str} {vs : List V}, fs.Nodup → fs[vs.length]? = some f → putF f w (fs.zip vs) = fs.zip (vs ++ [w])
  | [], _, _, h => by simp at h
  | g :: fs, [], _, h => by simp at h; subst h; simp [putF]
  | g :: fs, v :: vs, n, h => by
    have ne : ¬ g = f := fun z => by
      subst z
      exact (List.nodup_cons.mp n).1 (List.mem_of_getElem? (by simpa using h))
    rw [List.zip_cons_cons, List.cons_append, List.zip_cons_cons]
    simp only [putF, if_neg ne]
    rw [put_at (List.nodup_cons.mp n).2 (by simpa using h)]
theorem stf_in {i c j : Nat} {f : Str} {m : En → Rs D} (hc : FOk Z [(c, j)] f) (h9 : j < 900) : ∀ E σ H, dS Z W (stf i c j m) E σ H → sFld Z.K.K (tVar i) (dE Z W m) f E σ H := fun E σ H ⟨F, ρ, ea, q⟩ => ⟨F, ρ, ea, q.ctl.mono fun x ρ1 F1 H1 st e1 q2 v hv => by
  split at q2
  · rename_i c' xs h0
    split at q2
    · rename_i hh
      obtain ⟨rfl, rfl⟩ := hh
      obtain ⟨nm, fs, g1, g2, g3, g4, g5⟩ := hc c' xs.length (by simp [List.lookup])
      obtain ⟨nm', fs', a, dx, vs, k1, k2, k3, k4, k5, k6⟩ := e1.sl i _ h0
      rw [g1] at k1; cases k1
      have lv := k6.length
      refine ⟨.ref a, join_some k2, a, _, dx, _, rfl, k4, g4, g5, ?_, ?_⟩
      · rw [List.length_zip, lv]; omega
      · rw [put_at g3 (by rw [lv]; exact g2)]
        have hlt := (List.getElem?_eq_some_iff.mp g2).1
        obtain ⟨e2, s2⟩ := mutO (s' := .O c' (xs ++ [x])) (o := .ins (He.ga Z.K.K nm) dx (fs.zip (vs ++ [v]))) e1 h0 rfl (join_some k2) ⟨nm, fs, a, dx, _, g1, rfl, k3, upd_same, by simp; omega, k6.append (.cons hv .nil)⟩
        exact q2 σ F1 _ s2 e2
    · exact q2.elim
  · exact q2.elim⟩
theorem d_stf {i c j : Nat} {f : Str} {st : Stmt} {m : En → Rs D} (h : PS X st (sFld X.K (tVar i) (dE Z W m) f)) (hc : FOk Z [(c, j)] f) (h9 : j < 900 := by decide) (hk : X.K = Z.K.K := by rfl) : DS X Z W st (stf i c j m) := ⟨ps_imp h (hk ▸ stf_in hc h9)⟩
/-! ### errors -/
def rse (c : Nat) (g : En → Rs (List D)) : En → Ctl := fun ρ => (g ρ).ctl fun xs ρ' => if xs.length ≤ 100 then .exc c xs ρ' else .stuck
theorem rse_in {c : Nat} {nm : Str} {fs : List Str} {g : En → Rs (List D)} {flds : List V → Option (List (Str × V))} (hc : Z.K.et[c]? = some (nm, fs)) (hne : fs ≠ []) (hf : ∀ vs, flds vs = some (fs.zip vs).reverse ∨ vs.length ≠ fs.length) :
    ∀ (E : Ends) σ H, dS Z W (fun ρ => (g ρ).ctl fun xs ρ' => if xs.length = fs.length ∧ xs.length ≤ 100 then .exc c xs ρ' else .stuck) E σ H → tMkO (He.ga Z.K.K nm) (spX (He.ga Z.K.K nm) flds) [] (dL Z W g) σ H fun cls d H' => W cls d σ H' := fun E σ H ⟨F, ρ, ea, q⟩ => ⟨F, ρ, ea, q.ctl.mono fun xs ρ' F1 H1 st e1 q vs hv => by
  split at q
  · rename_i hl
    have lv := hv.length
    refine mkA_in (Q := fun cls d H' => W cls d σ H') (fs := (fs.zip vs).reverse) ((hf vs).resolve_right fun z => z (by omega)) (by omega) fun d H2 hd sm h2 => ?_
    have al : Al F1 H1 (upd F1 d (.xd (fs.zip vs).reverse)) H2 := ⟨same_new (e1.sub.free hd), sm, fun b u h => by
      by_cases z : b = d
      · subst z; rw [upd_same] at h; cases h; exact h2
      · rw [upd_ne z] at h; exact sm _ _ (e1.sub _ _ h), fun b h => by
      by_cases z : b = d
      · subst z; exact .inr hd
      · rw [upd_ne z] at h; exact .inl h⟩
    exact q _ (some d) σ _ H2 al.stp (e1.al al) ⟨nm, fs, vs, hc, rfl, hl.1.symm, hv.mono al.same, fun z => absurd z hne, fun _ => ⟨d, rfl, upd_same⟩⟩
  · exact q.elim⟩
def rsx (c n : Nat) (g : En → Rs (List D)) : En → Ctl := fun ρ => (g ρ).ctl fun xs ρ' => if xs.length = n ∧ xs.length ≤ 100 then .exc c xs ρ' else .stuck
theorem d_rse {c k j : Nat} {nm x : Str} {fs : List Str} {g : En → Rs (List D)} {flds : List V → Option (List (Str × V))} {e : Expr} {es : List Expr} {p pos pos' : Pos} (hc : Z.K.et[c]? = some (nm, fs)) (hne : fs ≠ []) (hf : ∀ vs, flds vs = some (fs.zip vs).reverse ∨ vs.length ≠ fs.length)
    (hcalm : X.calm = true) (tk : Takes X W) (cx : Exk X.prog X.w X.K X.mg X.base k x (He.ga Z.K.K nm) flds) (hr : Room j X.A) (hk : k + 1 ≤ j) (hg : Gl X x) (ha : DL X Z W (e :: es) g)
    (hdb : NotDbg x := by decide) (he : StarOk X e es := by rfl) (hpl : NoStars X pos es := by rfl) :
    DS X Z W (.Raise (some (.Call (.Name x p) (e :: es) [] pos)) none pos') (rsx c fs.length g) := ⟨ps_imp (ps_raise hcalm tk (pmk_A cx hr hk hg ha.pa hdb he hpl)) fun E σ H q => rse_in hc hne hf E σ H q⟩
/-! try: .. except C as n: .. -/
def noX1 : S → S
  | .X _ _ => .un
  | s => s
def fixE (i : Nat) (r : Ctl) : Ctl := match r with
  | .nx ρ => .nx ((ρ.map noX1).set i .un)
  | .brk ρ => .brk ((ρ.map noX1).set i .un)
  | .cnt ρ => .cnt ((ρ.map noX1).set i .un)
  | .ret (.X _ _) _ => .stuck
  | .ret s ρ => .ret s ((ρ.map noX1).set i .un)
  | .exc _ _ _ => .stuck
  | .stuck => .stuck
def tryS (p : Nat → Bool) (i : Nat) (b h : En → Ctl) : En → Ctl := fun ρ => match b ρ with
  | .exc c xs ρ1 => if p c = true then fixE i (h (ρ1.set i (.X c xs))) else .exc c xs ρ1
  | r => r
theorem noX_own {i : Nat} {a : Addr} (h : OwnI σ (ρ.map noX1) i a) : OwnI σ ρ i a := by
  obtain ⟨h1, s, h2, h3⟩ := h
  rw [List.getElem?_map] at h2
  cases q : ρ[i]? with
  | none => rw [q] at h2; cases h2
  | some t =>
    rw [q] at h2
    have : noX1 t = s := Option.some.inj h2
    cases t with
    | X c xs => rw [← this] at h3; cases h3
    | _ => rw [← this] at h3; exact ⟨h1, _, q, h3⟩
theorem noX_ea {Z' : Zt} (hK : Z'.K = Z.K) (e : EA Z' F H σ ρ) : EA Z F H σ (ρ.map noX1) where
  sub := e.sub
  len := by rw [List.length_map]; exact e.len
  sl := fun i s h => by
    rw [List.getElem?_map] at h
    cases q : ρ[i]? with
    | none => rw [q] at h; cases h
    | some t =>
      rw [q] at h
      have et : noX1 t = s := Option.some.inj h
      have ht := e.sl i t q
      cases t with
      | X c xs => rw [← et]; trivial
      | un => rw [← et]; trivial
      | d x => rw [← et]; exact slZ (Z := Z') hK.symm (.inr fun _ _ z => nomatch z) ht
      | L xs => rw [← et]; exact slZ (Z := Z') hK.symm (.inr fun _ _ z => nomatch z) ht
      | M ks xs => rw [← et]; exact slZ (Z := Z') hK.symm (.inr fun _ _ z => nomatch z) ht
      | T ks xs => rw [← et]; exact slZ (Z := Z') hK.symm (.inr fun _ _ z => nomatch z) ht
      | O c xs => rw [← et]; exact slZ (Z := Z') hK.symm (.inr fun _ _ z => nomatch z) ht
  dis := fun i j a h1 h2 => e.dis i j a (noX_own h1) (noX_own h2)
/-- a slot set to nothing -/
theorem set_none (e : EA Z F H σ ρ) {i : Nat} (hi : i ∉ Z.bp) : Stp Z F H σ ρ F H (σ.set i none) (ρ.set i .un) ∧ EA Z F H (σ.set i none) (ρ.set i .un) := by
  have key : ∀ j a, OwnI (σ.set i none) (ρ.set i .un) j a → OwnI σ ρ j a := fun j a ⟨h1, t, h2, h3⟩ => by
    by_cases c : j = i
    · subst c
      rw [List.getElem?_set] at h2
      by_cases q : j < ρ.length
      · simp [q] at h2; subst h2; cases h3
      · simp [q] at h2
    · rw [List.getElem?_set] at h1 h2
      simp [Ne.symm c] at h1 h2
      exact ⟨h1, t, h2, h3⟩
  refine ⟨⟨Same.refl _, fun b q => .inl q, fun b o q _ => q, fun j b q => .inl ⟨j, key j b q⟩, fun j hj _ => ?_, by rw [List.length_set]; exact Nat.le_refl _⟩, ⟨e.sub, by rw [List.length_set, List.length_set]; exact e.len, fun j t q => ?_, fun j k a h1 h2 => e.dis j k a (key j a h1) (key k a h2)⟩⟩
  · rw [List.getElem?_set, if_neg fun z : i = j => hi (z ▸ hj)]
  · by_cases c : j = i
    · subst c
      rw [List.getElem?_set] at q
      by_cases z : j < ρ.length
      · simp [z] at q; subst q; trivial
      · simp [z] at q
    · rw [List.getElem?_set] at q ⊢
      simp [Ne.symm c] at q ⊢
      exact e.sl j t q
theorem stpZ {Z' : Zt} {σ' : L2.St} {ρ' : En} (hb : Z'.bp = Z.bp) (s : Stp Z' F H σ ρ F1 H1 σ' ρ') : Stp Z F H σ ρ F1 H1 σ' ρ' := ⟨s.same, s.new, s.keep, s.own, fun i hi => s.par i (hb ▸ hi), s.len⟩
theorem ca {Z' : Zt} {Wo : WX} {E : Ends} {i : Nat} {r : Ctl} (hK : Z'.K = Z.K) (hb : Z'.bp = Z.bp) (hi : i ∉ Z.bp) (h : StS Z Wo F H σ ρ (fixE i r) E) :
    StS Z' W0 F H σ ρ r { nx := fun σ' H' => E.nx (σ'.set i none) H', rt := E.rt, bk := fun σ' H' => E.bk (σ'.set i none) H', ct := fun σ' H' => E.ct (σ'.set i none) H' } := by
  have go : ∀ {σ' : L2.St} {ρ' : En} {F' H' : Hp}, Stp Z' F H σ ρ F' H' σ' ρ' → EA Z' F' H' σ' ρ' → Stp Z F H σ ρ F' H' (σ'.set i none) ((ρ'.map noX1).set i .un) ∧ EA Z F' H' (σ'.set i none) ((ρ'.map noX1).set i .un) := fun s e => by
    obtain ⟨s1, e1⟩ := set_none (noX_ea hK e) hi
    have s0 := stpZ hb s
    refine ⟨Stp.trans ⟨s0.same, s0.new, s0.keep, fun j b z => s0.own j b (noX_own z), s0.par, s0.len⟩ s1, e1⟩
  cases r with
  | stuck => exact h
  | exc c xs ρ' => exact h.elim
  | nx ρ' => exact fun σ' F' H' s e => let ⟨a, b⟩ := go s e; h _ F' H' a b
  | brk ρ' => exact fun σ' F' H' s e => let ⟨a, b⟩ := go s e; h _ F' H' a b
  | cnt ρ' => exact fun σ' F' H' s e => let ⟨a, b⟩ := go s e; h _ F' H' a b
  | ret s ρ' =>
    have fin : (∀ c xs, s ≠ .X c xs) → StS Z Wo F H σ ρ (.ret s ((ρ'.map noX1).set i .un)) E → StS Z' W0 F H σ ρ (.ret s ρ') { nx := fun σ' H' => E.nx (σ'.set i none) H', rt := E.rt, bk := fun σ' H' => E.bk (σ'.set i none) H', ct := fun σ' H' => E.ct (σ'.set i none) H' } := fun hx h v σ' F' H' st e sl fr => by
      obtain ⟨a, b⟩ := go st e
      refine h v _ F' H' a b (slZ (Z := Z') hK.symm (.inr hx) sl) fun so p hp => ⟨(fr so p hp).1, fun j z => ?_⟩
      obtain ⟨h1, t, h2, h3⟩ := z
      by_cases c : j = i
      · subst c
        rw [List.getElem?_set] at h2
        by_cases q : j < (ρ'.map noX1).length
        · simp at q; simp [q] at h2; subst h2; cases h3
        · simp at q; simp [Nat.not_lt.mpr q] at h2
      · rw [List.getElem?_set] at h1 h2
        simp only [Ne.symm c, if_false] at h1 h2
        exact (fr so p hp).2 j (noX_own ⟨h1, t, h2, h3⟩)
    cases s with
    | X c xs => exact h.elim
    | un => exact fin (fun _ _ z => nomatch z) h
    | d x => exact fin (fun _ _ z => nomatch z) h
    | L xs => exact fin (fun _ _ z => nomatch z) h
    | M ks xs => exact fin (fun _ _ z => nomatch z) h
    | T ks xs => exact fin (fun _ _ z => nomatch z) h
    | O c xs => exact fin (fun _ _ z => nomatch z) h
/-- which errors a class catches -/
def EOk (Z : Zt) (c : Value) (p : Nat → Bool) : Prop := ∀ i nm fs, Z.K.et[i]? = some (nm, fs) → PySem.W.exmOne Z.K.K (.ref (He.ga Z.K.K nm)) c = some (p i)
theorem try_in {p : Nat → Bool} {i : Nat} {b h : En → Ctl} {c : Value} (hp : EOk Z c p) (hi : i ∉ Z.bp) (hx : Z.xa = none) : ∀ E σ H, dS Z W (tryS p i b h) E σ H → dS Z (wAs Z.K.K c i (fun a cls d => dS { Z with xa := some (a, cls, d) } W0 h) W E) b E σ H := fun E σ H ⟨F, ρ, ea, q⟩ => ⟨F, ρ, ea, by
  unfold tryS at q
  cases hb : b ρ with
  | stuck => rw [hb] at q; exact q
  | nx => rw [hb] at q; exact q
  | brk => rw [hb] at q; exact q
  | cnt => rw [hb] at q; exact q
  | ret => rw [hb] at q; exact q
  | exc c' xs ρ1 =>
    rw [hb] at q
    intro cls dd σ' F' H' st e xa
    obtain ⟨nm, fs, vs, x1, x2, x3, x4, x5, x6⟩ := xa
    refine ⟨p c', by rw [x2]; exact hp c' nm fs x1, fun hc a ha => ?_, fun hc => ?_⟩
    · simp only [hc, if_true] at q
      -- the error in its slot
      have e' : EA { Z with xa := some (a, cls, dd) } F' H' σ' ρ1 := ⟨e.sub, e.len, fun j s hj => by
        have := e.sl j s hj
        cases s with
        | X c xs => obtain ⟨_, _, _, _, _, _, _, _, z, _⟩ := this; rw [hx] at z; cases z
        | un => trivial
        | d x => exact this
        | L xs => exact this
        | M ks xs => exact this
        | T ks xs => exact this
        | O c xs => exact this, e.dis⟩
      obtain ⟨s2, e2⟩ := set_d (Z := { Z with xa := some (a, cls, dd) }) (s := .X c' xs) (v := .ref a) (i := i) e' hi ⟨nm, fs, a, cls, dd, vs, x1, rfl, rfl, x2, x3, x4, x5, x6⟩ (fun z => nomatch z) (fun z => nomatch z)
      refine ⟨F', _, e2, ?_⟩
      exact ca (Z := Z) (Z' := { Z with xa := some (a, cls, dd) }) rfl rfl hi (StS.from (st.trans (stpZ (Z' := { Z with xa := some (a, cls, dd) }) rfl s2)) q)
    · simp only [hc, Bool.false_eq_true, if_false] at q
      exact q cls dd σ' F' H' st e ⟨nm, fs, vs, x1, x2, x3, x4, x5, x6⟩⟩
end

section
variable {Z : Zt} {W : WX} {X : Cx} {F H F1 H1 : Hp} {σ : L2.St} {ρ ρ1 : En} {Q : VK}
theorem d_try {x n : Str} {c : Value} {i : Nat} {p : Nat → Bool} {body suite : List Stmt} {b₀ : Stmt} {np pos pos' : Pos} {b h : En → Ctl} (hp : EOk Z c p) (hbp : i ∉ Z.bp) (hxa : Z.xa = none)
    (hs : X.stack = X.env :: X.outer) (hf : X.env.frame = some X.env.locals) (hN : X.N.Nodup) (hi : X.N[i]? = some n) (hln : X.env.kindOf n = some .local) (hc : Names X x c) (tk : Takes X W)
    (hb : ∀ (W : WX) (pn : List (Addr × Obj)) (xe : Value → Shared → Prop), Takes (X.tr pn xe) W → PassesOwn (model X.prog X.w) X.A X.env xe → DB (X.tr pn xe) Z W body b)
    (hsu : ∀ (a : Addr) (oe : Obj) (cls : Value) (d : Option Addr) (pn : List (Addr × Obj)), Zc cls d oe → (∃ vs, oe.data = .fields vs) → DB (X.suite a ((a, oe) :: pn)) { Z with xa := some (a, cls, d) } W0 (b₀ :: suite) h) (hk : X.K = Z.K.K := by rfl) :
    DS X Z W (.Try body [.ExceptHandler (some (.Name x np)) (some n) (b₀ :: suite) pos'] [] [] pos) (tryS p i b h) :=
  ⟨ps_imp (ps_try_as hs hf hN hi hln hc tk (fun W pn xe tk po => (hb W pn xe tk po).pss) fun a oe cls d pn hz hf => (hsu a oe cls d pn hz hf).pss) (hk ▸ try_in hp hbp hxa)⟩
/-- without a name -/
def calC (r : Ctl) : Ctl := match r with
  | .exc _ _ _ => .stuck
  | r => r
def tryO (p : Nat → Bool) (b h : En → Ctl) : En → Ctl := fun ρ => match b ρ with
  | .exc c xs ρ1 => if p c = true then calC (h ρ1) else .exc c xs ρ1
  | r => r
theorem d_tryO {x : Str} {c : Value} {p : Nat → Bool} {body suite : List Stmt} {b₀ : Stmt} {np pos pos' : Pos} {b h : En → Ctl} (hp : EOk Z c p)
    (hs : X.stack = X.env :: X.outer) (hf : X.env.frame = some X.env.locals) (hc : Names X x c) (tk : Takes X W)
    (hb : ∀ (W : WX) (pn : List (Addr × Obj)) (xe : Value → Shared → Prop), Takes (X.tr pn xe) W → PassesOwn (model X.prog X.w) X.A X.env xe → DB (X.tr pn xe) Z W body b)
    (hsu : ∀ (a : Addr) (oe : Obj) (cls : Value) (d : Option Addr) (pn : List (Addr × Obj)), Zc cls d oe → (∃ vs, oe.data = .fields vs) → DB (X.suite a ((a, oe) :: pn)) Z W0 (b₀ :: suite) h) (hk : X.K = Z.K.K := by rfl) :
    DS X Z W (.Try body [.ExceptHandler (some (.Name x np)) none (b₀ :: suite) pos'] [] [] pos) (tryO p b h) :=
  ⟨ps_imp (ps_try_only hs hf hc tk (fun W pn xe tk po => (hb W pn xe tk po).pss) fun a oe cls d pn hz hf => (hsu a oe cls d pn hz hf).pss) fun E σ H ⟨F, ρ, ea, q⟩ => ⟨F, ρ, ea, by
    unfold tryO at q
    cases hb : b ρ with
    | stuck => rw [hb] at q; exact q
    | nx => rw [hb] at q; exact q
    | brk => rw [hb] at q; exact q
    | cnt => rw [hb] at q; exact q
    | ret => rw [hb] at q; exact q
    | exc c' xs ρ1 =>
      rw [hb] at q
      intro cls dd σ' F' H' st e xa
      obtain ⟨nm, fs, vs, x1, x2, x3, x4, x5, x6⟩ := xa
      refine ⟨p c', by rw [x2, hk]; exact hp c' nm fs x1, fun hc a ha => ?_, fun hc => ?_⟩
      · simp only [hc, if_true] at q
        refine ⟨F', ρ1, e, ?_⟩
        have q' := StS.from st q
        revert q'
        cases h ρ1 with
        | exc => exact fun z => z.elim
        | _ => exact fun z => z
      · simp only [hc, Bool.false_eq_true, if_false] at q
        exact q cls dd σ' F' H' st e ⟨nm, fs, vs, x1, x2, x3, x4, x5, x6⟩⟩⟩
/-! isinstance -/
/-- what isinstance asks of an own class -/
structure IsC (K : PySem.W.Frag) (C : Addr) : Prop where
  cl : Cls K C
  hc : PySem.W.findIn K (.ref C) "__class__" = some (some (.builtin "object.__class__"))
  hg : PySem.W.specialIn K (.builtin "object.__class__") "__get__" = some (some (.builtin "getset_descriptor.__get__"))
  ht : PySem.W.takesIn K (Value.builtin "object.__class__") = Option.some true
  mr : PySem.W.mroIn K C (.type "object") = some true
def KOk (Z : Zt) (u : Value) (p : Nat → Bool) : Prop := ∀ (c : Nat) (nm : Str) (fs : List Str), Z.K.ct[c]? = some (nm, fs) → IsC Z.K.K (He.ga Z.K.K nm) ∧ PySem.W.kitOne Z.K.K (.ref (He.ga Z.K.K nm)) u = some (p c)
def KOkA (Z : Zt) (us : List Value) (p : Nat → Bool) : Prop := ∀ (c : Nat) (nm : Str) (fs : List Str), Z.K.ct[c]? = some (nm, fs) → IsC Z.K.K (He.ga Z.K.K nm) ∧ PySem.W.kitAny Z.K.K (.ref (He.ga Z.K.K nm)) us = some (p c)
def isF (p : Nat → Bool) : D → Option S
  | .obj c _ => some (sB (p c))
  | _ => none
theorem isi_in {C : Addr} {p : Nat → Bool} {h : En → Rs Hd} (hp : KOk Z (.ref C) p) : ∀ σ H Q, dF Z W (op1 (isF p) h) σ H Q → tCB (rIsi Z.K.K) (tCons (dO Z W h) (tCons (tC (.ref C)) tNil)) σ H Q := fun σ H Q q =>
  op1_in (r := fun v H Q => rIsi Z.K.K [v, .ref C] H Q) (fun F H x v s Q sm p e k => by
    cases x with
    | obj c xs =>
      cases e
      obtain ⟨nm, fs, a, dx, vs, g1, rfl, g2, g3, g4⟩ := p
      obtain ⟨⟨k1, k2, k3, k4, km⟩, k5⟩ := hp c nm fs g1
      exact ⟨_, _, _, _, _, rfl, .own C, .base (.ins g2 k1 k2 k3 k4 km), k5, k.dat sm DA.bl⟩
    | _ => cases e) σ H Q q
theorem d_isi {x : Expr} {es : List Expr} {C : Addr} {p : Nat → Bool} {h : En → Rs Hd} {pp pos : Pos} (hp : KOk Z (.ref C) p) (hg : Gl X "isinstance") (hm : X.mg "isinstance" = none) (hb : bootBuiltins "isinstance" = some (.builtin "isinstance"))
    (ha : L2.PA X (x :: es) (tCons (dO Z W h) (tCons (tC (.ref C)) tNil))) (hk : X.K = Z.K.K := by rfl) (he : starEach (x :: es) X.env = (false, eval x X.env) :: starEach es X.env := by rfl) (hpl : NoStars X pos es := by rfl) :
    DF X Z W (.Call (.Name "isinstance" pp) (x :: es) [] pos) (op1 (isF p) h) := ⟨pe_imp (pe_callB (hk ▸ call_isi) hg hm hb ha (by decide) (by decide) he hpl) (isi_in hp)⟩
theorem isiT_in {cs : List V} {us : List Value} {p : Nat → Bool} {h : En → Rs Hd} {t : TA} (ht : ∀ σ H P, P cs H → t σ H P) (hl : cs.length ≤ sizeLine) (hc : Paired ClsV cs us) (hp : KOkA Z us p) : ∀ σ H Q, dF Z W (op1 (isF p) h) σ H Q → tCB (rIsiT Z.K.K) (tCons (dO Z W h) (tCons (tTup t) tNil)) σ H Q := fun σ H Q q =>
  op1_in (r := fun v H Q => tTup t σ H fun y H2 => rIsiT Z.K.K [v, y] H2 Q) (fun F H x v s Q sm p e k => by
    cases x with
    | obj c xs =>
      cases e
      obtain ⟨nm, fs, a, dx, vs, g1, rfl, g2, g3, g4⟩ := p
      obtain ⟨⟨k1, k2, k3, k4, km⟩, k5⟩ := hp c nm fs g1
      refine ht σ H _ ⟨hl, fun b hb => ?_⟩
      refine ⟨_, b, cs, _, us, _, rfl, upd_same, hc, .base (.ins (up hb g2) k1 k2 k3 k4 km), k5, ?_⟩
      exact k _ _ _ (Al.lay sm hb _) ⟨_, rfl, DA.bl⟩ fun z => nomatch z
    | _ => cases e) σ H Q q
theorem d_isiT {x : Expr} {es : List Expr} {cs : List V} {us : List Value} {p : Nat → Bool} {h : En → Rs Hd} {t : TA} {pp pos : Pos} (ht : ∀ σ H P, P cs H → t σ H P) (hl : cs.length ≤ sizeLine) (hc : Paired ClsV cs us) (hp : KOkA Z us p) (hg : Gl X "isinstance") (hm : X.mg "isinstance" = none) (hb : bootBuiltins "isinstance" = some (.builtin "isinstance"))
    (ha : L2.PA X (x :: es) (tCons (dO Z W h) (tCons (tTup t) tNil))) (hk : X.K = Z.K.K := by rfl) (he : starEach (x :: es) X.env = (false, eval x X.env) :: starEach es X.env := by rfl) (hpl : NoStars X pos es := by rfl) :
    DF X Z W (.Call (.Name "isinstance" pp) (x :: es) [] pos) (op1 (isF p) h) := ⟨pe_imp (pe_callB (hk ▸ call_isiT) hg hm hb ha (by decide) (by decide) he hpl) (isiT_in ht hl hc hp)⟩
/-! the caught error -/
/-- what is told of the errors' classes -/
def XOk (Z : Zt) : Prop := ∀ (c : Nat) (nm : Str) (fs : List Str), Z.K.et[c]? = some (nm, fs) → ExC Z.K.K (He.ga Z.K.K nm) ∧ fs.Nodup ∧ ∀ f, f ∈ fs → PySem.W.findIn Z.K.K (.ref (He.ga Z.K.K nm)) f = some none
/-- field j of the error in slot i, by its class -/
def xfl (i : Nat) (cs : List (Nat × Nat)) : En → Rs D := fun ρ => match ρ[i]? with
  | some (.X c xs) => Rs.opt ((cs.lookup c).bind fun j => xs[j]?) fun x => .ok x ρ
  | _ => .stuck
theorem rev_lk {f : Str} : ∀ {l : List (Str × V)}, (l.map (·.1)).Nodup → l.reverse.lookup f = l.lookup f
  | [], _ => rfl
  | (g, v) :: r, n => by
    rw [List.map_cons] at n
    have n1 := (List.nodup_cons.mp n).1
    rw [List.reverse_cons, List.lookup_append, rev_lk (List.nodup_cons.mp n).2, List.lookup_cons]
    by_cases c : f = g
    · subst c
      have : r.lookup f = none := by
        rw [List.lookup_eq_none_iff]
        intro p hp
        exact bne_iff_ne.mpr fun z => n1 (List.mem_map.mpr ⟨p, hp, z.symm⟩)
      simp [this]
    · simp [beq_eq_false_iff_ne.mpr c, List.lookup]
theorem zip_fstS {ks : List Str} {vs : List V} (h : ks.length = vs.length) : (ks.zip vs).map (·.1) = ks := by
  rw [List.map_fst_zip]; omega
theorem d_xfl {a : Addr} {oe : Obj} {cls : Value} {d : Option Addr} {pn : List (Addr × Obj)} {i : Nat} {e : Expr} {pos : Pos} {n : Str} {cs : List (Nat × Nat)} {Y : Cx} (hY : Y = X.suite a ((a, oe) :: pn)) (hz : Zc cls d oe) (hf : ∃ vs, oe.data = .fields vs) (hx : XOk Z) (hcs : ∀ c j, cs.lookup c = some j → ∃ nm fs, Z.K.et[c]? = some (nm, fs) ∧ fs[j]? = some n)
    (he : PE (X.suite a ((a, oe) :: pn)) e (tVar i)) (hxa : Z.xa = some (a, cls, d)) (hk : X.K = Z.K.K := by rfl) (hb : attributeBase e n X.env (eval e X.env) = eval e X.env := by rfl) : DE Y Z W (.Attribute e n pos) (xfl i cs) := hY ▸ ⟨pe_imp (pe_xA hz hf he hb) fun σ H Q ⟨F, ρ, ea, q⟩ => by
  unfold xfl at q
  split at q
  · rename_i c xs h0
    obtain ⟨x, ex, q⟩ := q.opt
    obtain ⟨j, ej, ex⟩ := Option.bind_eq_some_iff.mp ex
    obtain ⟨nm, fs, g1, g2⟩ := hcs c j ej
    obtain ⟨nm', fs', a', cls', dd, vs, k1, k2, k3, k4, k5, k6, k7, k8⟩ := ea.sl i _ h0
    rw [g1] at k1; cases k1
    rw [hxa] at k3; cases k3
    obtain ⟨t1, t2, t3⟩ := hx c nm fs g1
    have ne : fs ≠ [] := fun z => by rw [z] at g2; simp at g2
    obtain ⟨d', rfl, hd⟩ := k8 ne
    obtain ⟨u, u1, u2⟩ := k6.get' ex
    refine ⟨_, hk ▸ t1, hk ▸ t3 n (List.mem_of_getElem? g2), .ref a, join_some k2, rfl, k4, d', _, u, rfl, ea.sub _ _ hd, ?_, q.here ea u u2⟩
    rw [rev_lk (by rw [zip_fstS (by rw [k5, k6.length])]; exact t2)]
    exact zip_at t2 g2 u1
  · exact q.elim⟩
def xis (i : Nat) (p : Nat → Bool) : En → Rs D := fun ρ => match ρ[i]? with
  | some (.X c xs) => if xs ≠ [] then .ok (.bl (p c)) ρ else .stuck
  | _ => .stuck
def XIOk (Z : Zt) (u : Value) (p : Nat → Bool) : Prop := ∀ (c : Nat) (nm : Str) (fs : List Str), Z.K.et[c]? = some (nm, fs) → PySem.W.kitOne Z.K.K (.ref (He.ga Z.K.K nm)) u = some (p c)
theorem d_xis {a : Addr} {oe : Obj} {cls : Value} {d : Option Addr} {pn : List (Addr × Obj)} {i : Nat} {x : Expr} {es : List Expr} {pp pos : Pos} {c : V} {cv : Value} {p : Nat → Bool} {Y : Cx} (hY : Y = X.suite a ((a, oe) :: pn)) (hz : Zc cls d oe) (hf : ∃ vs, oe.data = .fields vs) (hx : XOk Z) (hp : XIOk Z cv p) (hcv : ∀ u, RelV c u → u = cv) (hxa : Z.xa = some (a, cls, d))
    (hg : Gl X "isinstance") (hm : X.mg "isinstance" = none) (hb : bootBuiltins "isinstance" = some (.builtin "isinstance")) (ha : L2.PA (X.suite a ((a, oe) :: pn)) (x :: es) (tCons (tVar i) (tCons (tC c) tNil))) (hk : X.K = Z.K.K := by rfl) (he : starEach (x :: es) X.env = (false, eval x X.env) :: starEach es X.env := by rfl) (hpl : NoStars X pos es := by rfl) :
    DE Y Z W (.Call (.Name "isinstance" pp) (x :: es) [] pos) (xis i p) := hY ▸ ⟨pe_imp (pe_callB (call_isX hz hf) hg hm hb ha (by decide) (by decide) he hpl) fun σ H Q ⟨F, ρ, ea, q⟩ => by
  unfold xis at q
  split at q
  · rename_i c' xs h0
    split at q
    · rename_i hne
      obtain ⟨nm, fs, a', cls', dd, vs, k1, k2, k3, k4, k5, k6, k7, k8⟩ := ea.sl i _ h0
      rw [hxa] at k3; cases k3
      obtain ⟨t1, t2, t3⟩ := hx c' nm fs k1
      have ne : fs ≠ [] := fun z => by rw [z] at k5; exact hne (List.eq_nil_of_length_eq_zero k5.symm)
      obtain ⟨d', rfl, hd⟩ := k8 ne
      exact ⟨.ref a, join_some k2, _, d', _, c, cv, _, k4, rfl, ea.sub _ _ hd, hk ▸ t1, rfl, hcv, hk ▸ hp c' nm fs k1, q.here ea _ DA.bl⟩
    · exact q.elim
  · exact q.elim⟩
/-! slices -/
def part (m : En → Rs D) : En → Rs (Option Int) := fun ρ => (m ρ).bind fun x ρ' => match x with | .int i => .ok (some i) ρ' | _ => .stuck
def noPart : En → Rs (Option Int) := fun ρ => .ok none ρ
def dPt (Z : Zt) (W : WX) (m : En → Rs (Option Int)) : TO := fun σ H Q => ∃ F ρ, EA Z F H σ ρ ∧ Sat Z W F H σ ρ (m ρ) fun o ρ' F' H' => Q o H'
structure DP (X : Cx) (Z : Zt) (W : WX) (e : Option Expr) (m : En → Rs (Option Int)) : Prop where
  po : L2.PO X e (dPt Z W m)
theorem po_imp {e : Option Expr} {t t' : TO} (h : L2.PO X e t) (i : ∀ σ H Q, t' σ H Q → t σ H Q) : L2.PO X e t' := ⟨fun pins s σ H Q I z => h.run pins s σ H Q I (i σ H Q z)⟩
theorem d_no : DP X Z W none noPart := ⟨po_imp po_none fun σ H Q ⟨F, ρ, ea, q⟩ => q.here ea⟩
theorem d_part {e : Expr} {m : En → Rs D} (h : DE X Z W e m) : DP X Z W (some e) (part m) := ⟨po_imp (po_some h.pe) fun σ H Q ⟨F, ρ, ea, q⟩ => ⟨F, ρ, ea, q.bind.mono fun x ρ' F' H' st e p v hv => by
  split at p
  · rename_i i; exact ⟨i, da_int hv, p.here e⟩
  · exact p.elim⟩⟩
def cutD (xs : List D) (lo hi : Option Int) : List D := (xs.drop (HT.sIx xs.length 0 lo)).take (HT.sIx xs.length xs.length hi - HT.sIx xs.length 0 lo)
def slF (x : D) (lo hi : Option Int) : Option S := match x with
  | .lst xs => some (.L (cutD xs lo hi))
  | .tup xs => if HT.sIx xs.length 0 lo = 0 ∧ HT.sIx xs.length xs.length hi = xs.length then none else some (.d (.tup (cutD xs lo hi)))
  | .str z => if z.length ≤ 100000 then some (.d (.str (PySem.Txt.slice z lo hi))) else none
  | _ => none
def slG (h : En → Rs Hd) (m k : En → Rs (Option Int)) : En → Rs S := fun ρ => (h ρ).bind fun a ρ1 => (m ρ1).bind fun lo ρ2 => (k ρ2).bind fun hi ρ3 => Rs.opt (a.res ρ3) fun x => Rs.opt (slF x lo hi) fun s => .ok s ρ3
theorem cut_das {K : Kt} {xs : List D} {vs : List V} {lo hi : Option Int} (h : DAs K F xs vs) : DAs K F (cutD xs lo hi) (cutV vs lo hi) := by
  unfold cutD cutV
  rw [h.length]
  exact (h.drop _).take _
theorem d_sl {e : Expr} {lo hi : Option Expr} {pos p2 : Pos} {h : En → Rs Hd} {m k : En → Rs (Option Int)} (he : DO X Z W e h) (h1 : DP X Z W lo m) (h2 : DP X Z W hi k) (ok : ∀ F H x v lo hi s Q, Same F H → Pk Z.K F H x v → slF x lo hi = some s → Po Z F H Q s → rSlA X.K v lo hi H Q) : DF X Z W (.Subscript e (.Slice lo hi none p2) pos) (slG h m k) :=
  ⟨pe_imp (pe_slice sl_A he.pe h1.po h2.po) fun σ H Q ⟨F, ρ, ea, q⟩ => ⟨F, ρ, ea, q.bind.mono fun a ρ1 F1 H1 st1 e1 q v hv => ⟨F1, ρ1, e1, q.bind.mono fun lo ρ2 F2 H2 st2 e2 q => ⟨F2, ρ2, e2, q.bind.mono fun hi ρ3 F3 H3 st3 e3 q => by
    obtain ⟨x, ex, q⟩ := q.opt
    obtain ⟨s, es, q⟩ := q.opt
    exact ok F3 H3 x v lo hi s Q e3.sub ((hv.mono (st2.same.trans st3.same)).pk e3 ex) es (Po.back ((st1.trans st2).trans st3) e3 q)⟩⟩⟩⟩
/-! x += e of ints -/
def augI (i : Nat) (g : Int → Int → Int) (m : En → Rs D) : En → Ctl := fun ρ => match ρ[i]? with
  | some (.d (.int a)) => (m ρ).ctl fun y ρ1 => match y with
    | .int b => .nx (ρ1.set i (.d (.int (g a b))))
    | _ => .stuck
  | _ => .stuck
theorem d_aug {pos : Pos} {i : Nat} {x : Str} {e : Expr} {op : Operator} {pos' : Pos} {g : Int → Int → Int} {m : En → Rs D} (hi : i ∉ Z.bp) (hn : X.N.Nodup) (hx : X.N[i]? = some x) (hl : L2.Loc X.env.scope x) (he : DE X Z W e m) (hp : PIp X op (ipI g))
    (hf : X.fn x = true ∨ X.env.scope.names.lookup x = some .local := by first | exact .inl rfl | exact .inr rfl) : DS X Z W (.AugAssign (.Name x pos') op e pos) (augI i g m) := ⟨ps_imp (ps_aug hn hx hl he.pe hp hf) fun E σ H ⟨F, ρ, ea, q⟩ => by
  unfold augI at q
  split at q
  · rename_i a h0
    obtain ⟨v, hv, dv⟩ := ea.sl i _ h0
    refine ⟨v, join_some hv, F, ρ, ea, q.ctl.mono fun y ρ1 F1 H1 st e1 p w hw => ?_⟩
    split at p
    · rename_i b
      refine ⟨a, b, da_int dv, da_int hw, ?_⟩
      obtain ⟨s2, e2⟩ := set_d (s := .d (.int (g a b))) (v := .int (g a b)) e1 hi ⟨_, rfl, DA.int⟩ (fun z => nomatch z) (fun z => nomatch z)
      exact p _ F1 H1 s2 e2
    · exact p.elim
  · exact q.elim⟩
/-- slices of lists, texts, tuples (of these none that is the whole) -/
theorem ok_sl : ∀ F H (x : D) v lo hi s Q, Same F H → Pk Z.K F H x v → slF x lo hi = some s → Po Z F H Q s → rSlA Z.K.K v lo hi H Q := fun F H x v lo hi s Q sm p e k => by
  cases x with
  | lst xs => cases e; obtain ⟨a, vs, rfl, h1, h2⟩ := p.lst'; exact s_slL h1 fun b n => k.L sm (cut_das h2) b n
  | tup xs =>
    simp only [slF] at e
    split at e
    · cases e
    · rename_i hn
      cases e
      obtain ⟨a, vs, rfl, h1, h2⟩ := p.tup'
      exact .inr (.inl ⟨a, vs, rfl, h1, by rw [h2.length]; exact hn, fun b n => k.tup sm (cut_das h2) b n⟩)
  | str z =>
    simp only [slF] at e
    split at e
    · rename_i h; cases e; rw [pk_str p]; exact s_slS (line_of h) (k.dat sm DA.str)
    · cases e
  | _ => cases e
theorem d_slA {e : Expr} {lo hi : Option Expr} {pos p2 : Pos} {h : En → Rs Hd} {m k : En → Rs (Option Int)} (he : DO X Z W e h) (h1 : DP X Z W lo m) (h2 : DP X Z W hi k) (hk : X.K = Z.K.K := by rfl) : DF X Z W (.Subscript e (.Slice lo hi none p2) pos) (slG h m k) := d_sl he h1 h2 (hk ▸ ok_sl)
end
section
variable {Z : Zt} {W : WX} {X : Cx}
def isN : D → D → Option S
  | x, .non => match x with
    | .non => some (sB true)
    | .dct _ _ => none
    | .dtt _ _ => none
    | .obj _ _ => none
    | _ => some (sB false)
  | _, _ => none
def notN (x y : D) : Option S := match isN x y with
  | some (.d (.bl b)) => some (sB (!b))
  | _ => none
theorem pk_ne_non {K : Kt} {F H : Hp} {x : D} {v : V} (p : Pk K F H x v) (h : x ≠ .non) : v ≠ .non := by
  cases x with
  | non => exact absurd rfl h
  | bl b => rw [pk_bl p]; exact fun z => nomatch z
  | int i => rw [pk_int p]; exact fun z => nomatch z
  | str i => rw [pk_str p]; exact fun z => nomatch z
  | tup xs => obtain ⟨a, vs, rfl, _⟩ := p; exact fun z => nomatch z
  | lst xs => obtain ⟨a, vs, rfl, _⟩ := p; exact fun z => nomatch z
  | dct ks xs => obtain ⟨a, vs, rfl, _⟩ := p; exact fun z => nomatch z
  | dtt ks xs => obtain ⟨a, vs, rfl, _⟩ := p; exact fun z => nomatch z
  | obj c xs => obtain ⟨_, _, a, dx, vs, _, rfl, _⟩ := p; exact fun z => nomatch z
abbrev ltF := cmpF fun i j => decide (i < j)
abbrev leF := cmpF fun i j => decide (i ≤ j)
abbrev gtF := cmpF fun i j => decide (j < i)
abbrev geF := cmpF fun i j => decide (j ≤ i)
def negF : D → Option S
  | .int i => some (sI (-i))
  | _ => none
theorem ok_neg : Ok1 Z (rU fun i => .int (-i)) negF := fun F H x v s Q sm p e k => by
  cases x with
  | int i => cases e; rw [pk_int p]; exact ⟨i, rfl, k.dat sm DA.int⟩
  | _ => cases e
theorem d_un {a : Expr} {op : UnaryOp} {pos : Pos} {r : V → Hp → VK → Prop} {f : D → Option S} {h : En → Rs Hd} (o : UnR X (unaryOp op) r) (ok : Ok1 Z r f) (ha : DO X Z W a h) : DF X Z W (.UnaryOp op a pos) (op1 f h) := ⟨pe_imp (pe_un o ha.pe) (op1_in ok)⟩
theorem ok_max2 : OkN Z (fun xs H Q => ∃ i j, xs = [V.int i, V.int j] ∧ Q (V.int (if j > i then j else i)) H) max2F := fun F H xs vs s Q sm p e k => by
  unfold max2F at e; split at e
  · cases e; obtain ⟨v, w, rfl, h1, h2⟩ := pks_two p; exact ⟨_, _, by rw [pk_int h1, pk_int h2], k.dat sm DA.int⟩
  · cases e
theorem ok_min2 : OkN Z (fun xs H Q => ∃ i j, xs = [V.int i, V.int j] ∧ Q (V.int (if j < i then j else i)) H) min2F := fun F H xs vs s Q sm p e k => by
  unfold min2F at e; split at e
  · cases e; obtain ⟨v, w, rfl, h1, h2⟩ := pks_two p; exact ⟨_, _, by rw [pk_int h1, pk_int h2], k.dat sm DA.int⟩
  · cases e
def revD : D → Option S
  | .lst xs => some (.L xs.reverse)
  | _ => none
theorem d_revL {e : Expr} {k : Nat} {p1 p2 p3 pos : Pos} {h : En → Rs Hd} (he : DO X Z W e h) (hk : X.K = Z.K.K := by rfl) : DF X Z W (.Subscript e (.Slice none none (some (.UnaryOp .USub (.Constant (.int 1) k p1) p2)) p3) pos) (op1 revD h) := ⟨pe_imp (pe_revL he.pe) (op1_in (r := fun x H1 Q => ∃ a xs, x = .ref a ∧ SqL X.K H1 a xs ∧ ∀ p, H1 p = none → Q (.ref p) (upd H1 p (.lst xs.reverse))) fun F H x v s Q sm p e k => by
  cases x with
  | lst xs => cases e; obtain ⟨a, vs, rfl, h1, h2⟩ := p.lst'; exact ⟨a, vs, rfl, hk ▸ h1, fun b n => k.L sm h2.reverse b n⟩
  | _ => cases e)⟩
theorem ok_isN : Ok2 Z rIsN isN := fun F H x y v w s Q sm p q e k => by
  cases y with
  | non =>
    refine ⟨pk_non q, ?_⟩
    cases x with
    | non => cases e; rw [pk_non p]; exact k.dat sm DA.bl
    | dct => cases e
    | dtt => cases e
    | obj => cases e
    | bl b => cases e; rw [decide_eq_false (pk_ne_non p fun z => nomatch z)]; exact k.dat sm DA.bl
    | int b => cases e; rw [decide_eq_false (pk_ne_non p fun z => nomatch z)]; exact k.dat sm DA.bl
    | str b => cases e; rw [decide_eq_false (pk_ne_non p fun z => nomatch z)]; exact k.dat sm DA.bl
    | tup b => cases e; rw [decide_eq_false (pk_ne_non p fun z => nomatch z)]; exact k.dat sm DA.bl
    | lst b => cases e; rw [decide_eq_false (pk_ne_non p fun z => nomatch z)]; exact k.dat sm DA.bl
  | _ => cases x <;> cases e
theorem ok_notN : Ok2 Z rNotN notN := fun F H x y v w s Q sm p q e k => by
  cases y with
  | non =>
    refine ⟨pk_non q, ?_⟩
    cases x with
    | non => cases e; rw [pk_non p]; exact k.dat sm DA.bl
    | dct => cases e
    | dtt => cases e
    | obj => cases e
    | bl b => cases e; rw [decide_eq_false (pk_ne_non p fun z => nomatch z)]; exact k.dat sm DA.bl
    | int b => cases e; rw [decide_eq_false (pk_ne_non p fun z => nomatch z)]; exact k.dat sm DA.bl
    | str b => cases e; rw [decide_eq_false (pk_ne_non p fun z => nomatch z)]; exact k.dat sm DA.bl
    | tup b => cases e; rw [decide_eq_false (pk_ne_non p fun z => nomatch z)]; exact k.dat sm DA.bl
    | lst b => cases e; rw [decide_eq_false (pk_ne_non p fun z => nomatch z)]; exact k.dat sm DA.bl
  | _ => cases x <;> cases e
/-! ### errors with fields, made by their own __init__ -/
def flN (fs : List Str) (vs : List V) : Option (List (Str × V)) := if vs.length = fs.length then some (fs.zip vs).reverse else none
theorem flN_ok {fs : List Str} (vs : List V) : flN fs vs = some (fs.zip vs).reverse ∨ vs.length ≠ fs.length := by
  unfold flN
  by_cases h : vs.length = fs.length
  · rw [if_pos h]; exact .inl rfl
  · exact .inr h
theorem flN_len {C : Addr} {gs : List Str} {vs : List V} {H : Hp} {Q : VK} {E : XK} (h : spX C (flN gs) vs H Q E) : vs.length = gs.length + 1 := by
  obtain ⟨a, ws, fs, rfl, hf, _⟩ := h
  unfold flN at hf
  split at hf
  · rename_i l; simp [l]
  · cases hf
theorem tOst_in {K : PySem.W.Frag} {te to : TE} {f : Str} {E : Ends} {σ : L2.St} {H : Hp} (k : te σ H fun y H1 => to σ H1 fun x H2 => ∃ a C : Addr, x = .ref a ∧ OexC K C ∧ PySem.W.findIn K (.ref C) f = some none ∧ ((H2 a = some (exo a C none) ∧ ∀ dx, H2 dx = none → dx ≠ a → E.nx σ (upd (upd H2 dx (exd dx [(f, y)])) a (exo a C (some dx)))) ∨
    ∃ (dx : Addr) (fs : List (Str × V)), H2 a = some (exo a C (some dx)) ∧ H2 dx = some (exd dx fs) ∧ fs.length ≤ 900 ∧ E.nx σ (upd H2 dx (exd dx ((f, y) :: fs))))) : tOst K f to te E σ H := k
theorem xr1 {K : PySem.W.Frag} {C : Addr} {f : Str} {N : List Str} (T : OexC K C) (nf : PySem.W.findIn K (.ref C) f = some none) (vs : List V) (H : Hp) (Q : VK) (E : XK) (h : spX C (flN [f]) vs H Q E) :
    tOst K f (tVar 0) (tVar 1) { nx := fun _ H' => Q .non H', rt := Q } (L2.start N vs) H := by
  obtain ⟨a, ws, fs, rfl, hf, ha, k⟩ := h
  match ws, hf with
  | [v], hf =>
    cases hf
    refine tOst_in ⟨v, rfl, .ref a, rfl, a, C, rfl, T, nf, .inl ⟨ha, fun dx hx hne => ?_⟩⟩
    refine k dx _ hx hne ?_ upd_same fun b h1 h2 => by rw [upd_ne h1, upd_ne h2]
    rw [upd_ne hne, upd_same]; rfl
theorem xr2 {K : PySem.W.Frag} {C : Addr} {f f' : Str} {N : List Str} (T : OexC K C) (nf : PySem.W.findIn K (.ref C) f = some none) (nf' : PySem.W.findIn K (.ref C) f' = some none) (vs : List V) (H : Hp) (Q : VK) (E : XK) (h : spX C (flN [f, f']) vs H Q E) :
    tSeq (tOst K f (tVar 0) (tVar 1)) (tOst K f' (tVar 0) (tVar 2)) { nx := fun _ H' => Q .non H', rt := Q } (L2.start N vs) H := by
  obtain ⟨a, ws, fs, rfl, hf, ha, k⟩ := h
  match ws, hf with
  | [v, v'], hf =>
    cases hf
    refine s_seq (tOst_in ⟨v, rfl, .ref a, rfl, a, C, rfl, T, nf, .inl ⟨ha, fun dx hx hne => ?_⟩⟩)
    show tOst K f' (tVar 0) (tVar 2) _ _ _
    refine tOst_in ⟨v', rfl, .ref a, rfl, a, C, rfl, T, nf', .inr ⟨dx, [(f, v)], upd_same, (by rw [upd_ne hne, upd_same]), (by show 1 ≤ 900; decide), ?_⟩⟩
    refine k dx _ hx hne upd_same ?_ fun b h1 h2 => by rw [upd_ne h2, upd_ne h1, upd_ne h2]
    rw [upd_ne (Ne.symm hne), upd_same]
theorem lookup_mem {cs : List (Nat × Nat)} {c j : Nat} (h : cs.lookup c = some j) : (c, j) ∈ cs := by
  induction cs with
  | nil => simp at h
  | cons p r ih =>
    obtain ⟨a, b⟩ := p
    rw [List.lookup_cons] at h
    by_cases e : c = a
    · subst e; simp at h; subst h; exact List.mem_cons_self
    · rw [beq_eq_false_iff_ne.mpr e] at h
      exact List.mem_cons_of_mem _ (ih h)
end

theorem Room.u1 {k : Nat} {A : Around} (r : Room k A) : A.units + 1 < cLine := by have := r.units; omega
/-! ### comprehensions of two clauses -/
def lc2L (t : Tg) (vs : List Nat) (m2 : En → Rs (List D)) (t2 : Tg) (vs1 : List Nat) (e : En → Rs D) : List D → List D → En → Rs (List D)
  | [], acc, ρ => .ok acc ρ
  | x :: xs, acc, ρ => Rs.opt (t.put x ρ) fun ρ1 => (m2 ρ1).cb fun its ρ2 => if acc.length + its.length ≤ 100000 then (lcL t2 vs1 tru e its acc (wipeE ρ2 vs1)).cb fun acc' ρ3 => lc2L t vs m2 t2 vs1 e xs acc' (wipeE ρ3 vs) else .stuck
def lc2G (m : En → Rs (List D)) (t : Tg) (vs : List Nat) (m2 : En → Rs (List D)) (t2 : Tg) (vs1 : List Nat) (e : En → Rs D) : En → Rs S := fun ρ => (m ρ).bind fun its ρ1 => (lc2L t vs m2 t2 vs1 e its [] (wipeE ρ1 vs)).cb fun ys ρ2 => .ok (.L ys) (resE ρ1 ρ2 vs)
section
variable {Z : Zt} {W : WX} {X : Cx} {F H F1 H1 F' H' : Hp} {σ σ' σ1 : L2.St} {ρ ρ' ρ1 : En}
theorem wipe_wipe {vs vs1 : List Nat} (h : ∀ i ∈ vs1, i ∈ vs) : wipe (wipe σ vs1) vs = wipe σ vs := by
  apply List.ext_getElem?
  intro j
  rw [wipe_get, wipe_get, wipe_length, wipe_get]
  by_cases c : j ∈ vs
  · rw [if_pos c, if_pos c]
  · rw [if_neg c, if_neg c, if_neg fun z => c (h j z)]
/-- how a comprehension ends: the slots as they were, the list a new one -/
theorem lc_end {vs : List Nat} {Q : VK} {F0 H0 : Hp} {ρ0 : En} {B : Addr} {ys : List D} {ρe : En} {ws : List V} (st1 : Stp Z F0 H0 σ ρ0 F1 H1 σ ρ1) (e1 : EA Z F1 H1 σ ρ1) (hB : H1 B = none)
    (q : Sat Z W F1 H1 σ ρ1 (.ok (.L ys) (resE ρ1 ρe vs)) fun s ρ' F' H' => ∀ v, RA Z H0 σ ρ0 F' H' ρ' v s → Q v H') (fd : F' B = none) (hd : H' B = some (.lst ws)) (da : DAs Z.K F' ys ws) (nd : ∀ i, ¬ OwnI (wipe σ vs) ρe i B)
    (s : Stp Z F1 H1 (wipe σ vs) (wipeE ρ1 vs) F' H' (wipe σ vs) ρe) (e' : EA Z F' H' (wipe σ vs) ρe) : Q (.ref B) H' := by
  have low : ∀ i a, OwnI σ (resE ρ1 ρe vs) i a → i ∉ vs ∧ OwnI (wipe σ vs) ρe i a := fun i a ⟨h1, s, h2, h3⟩ => by
    rcases resE_get h2 with ⟨_, rfl | ⟨x, rfl, _⟩⟩ | ⟨a1, a2⟩
    · cases h3
    · cases h3
    · exact ⟨a1, by rw [wipe_get, if_neg a1]; exact h1, s, a2, h3⟩
  have ori : ∀ b, Ori H1 (wipe σ vs) (wipeE ρ1 vs) b → Ori H1 σ ρ1 b := fun b h => by
    rcases h with ⟨i, h⟩ | h
    · exact .inl ⟨i, (wipe_own h).2⟩
    · exact .inr h
  have st : Stp Z F1 H1 σ ρ1 F' H' σ (resE ρ1 ρe vs) := ⟨s.same, fun b h => (s.new b h).imp id (ori b), fun b o h n => s.keep b o h fun i z => n i (wipe_own z).2, fun i b h => ori b (s.own i b (low i b h).2), fun _ _ _ => rfl, Nat.le_refl _⟩
  have ee : EA Z F' H' σ (resE ρ1 ρe vs) := by
    refine ⟨e'.sub, by rw [resE_len, e'.len, wipe_length], fun i s0 h => ?_, fun i j a h1 h2 => e'.dis i j a (low i a h1).2 (low j a h2).2⟩
    rcases resE_get h with ⟨_, rfl | ⟨x, rfl, a2⟩⟩ | ⟨a1, a2⟩
    · trivial
    · exact (e1.sl i _ a2).mono s.same fun _ _ _ z => nomatch z
    · have := e'.sl i s0 a2
      rwa [wipe_get, if_neg a1] at this
  exact q F' H' st ee (.ref B) ⟨⟨B, ws, rfl, fd, hd, da⟩, fun _ p hp => by
    cases hp
    exact ⟨Ori.back st1 (.inr hB), fun i z => nd i (low i B z).2⟩⟩
theorem lc2_in {m : En → Rs (List D)} {g : TG} {t : Tg} {vs : List Nat} {m2 : En → Rs (List D)} {g2 : TG} {t2 : Tg} {vs1 : List Nat} {e : En → Rs D} (ht : GOk Z g t) (hv : ∀ i ∈ t.sl, i ∈ vs) (hb : ∀ i ∈ vs, i ∉ Z.bp) (ht2 : GOk Z g2 t2) (hv2 : ∀ i ∈ t2.sl, i ∈ vs1) (h12 : ∀ i ∈ vs1, i ∈ vs) :
    ∀ σ H Q, dF Z W (lc2G m t vs m2 t2 vs1 e) σ H Q → tLc2 (dI Z W m) g tYes (dI Z W0 m2) g2 tYes (dE Z W0 e) vs vs1 σ H Q := fun σ H Q ⟨F, ρ, ea, q⟩ => s_lc2 ⟨F, ρ, ea, q.bind.mono fun its ρ1 F1 H1 st1 e1 q J IT B hB => by
  have hb1 : ∀ i ∈ vs1, i ∉ Z.bp := fun i hi => hb i (h12 i hi)
  have lay : Al F1 H1 F1 (upd H1 B (.lst [])) := Al.lay e1.sub hB _
  have e2 := e1.al lay
  generalize hr : lc2L t vs m2 t2 vs1 e its [] (wipeE ρ1 vs) = r at q
  cases r with
  | stuck => exact q.elim
  | exc => exact q.elim
  | ok ys ρe =>
    rw [Rs.cb_ok] at q
    have n0 : ∀ i, ¬ OwnI (wipe σ vs) (wipeE ρ1 vs) i B := fun i z => by
      obtain ⟨_, u, hu⟩ := e1.ownF (wipe_own z).2
      rw [hB] at hu; cases hu
    refine ⟨fun i n H' => n = its.length - i ∧ i ≤ its.length ∧ LcI Z F1 H1 (wipe σ vs) (wipeE ρ1 vs) B (lc2L t vs m2 t2 vs1 e (its.drop i)) ys ρe 100000 H', ⟨its.length, rfl, Nat.zero_le _, F1, wipeE ρ1 vs, [], [], wipe_ea e2, lay.stp, e1.sub.free hB, upd_same, DAs.nil, n0, Nat.zero_le _, hr⟩, ?_⟩
    rintro i n H2 ⟨rfl, hi, F2, ρ2, acc, vacc, e3, s3, fd, hd, da, nd, hl, hr2⟩
    by_cases hlt : i < its.length
    · refine .inr ⟨IT.go i H2 (s3.same.trans e3.sub) hlt, fun H' => i + 1 ≤ its.length ∧ LcI Z F1 H1 (wipe σ vs) (wipeE ρ1 vs) B (lc2L t vs m2 t2 vs1 e (its.drop (i + 1))) ys ρe 100000 H', fun H' z => ⟨its.length - (i + 1), by omega, rfl, z⟩, fun x H3 yl => ?_⟩
      obtain ⟨F3, d, al, ed, hx⟩ := IT.yl i x F2 H2 H3 s3.same e3.sub hlt yl
      have dr : its.drop i = d :: its.drop (i + 1) := by
        rw [List.drop_eq_getElem_cons hlt]
        have := List.getElem?_eq_getElem hlt
        rw [ed] at this
        rw [Option.some.inj this]
      rw [dr] at hr2
      simp only [lc2L] at hr2
      obtain ⟨ρ3, ep, hr2⟩ := Rs.opt_of hr2
      obtain ⟨its2, ρ4, hm2, hr2⟩ := Rs.cb_of hr2
      have sa : Stp Z F2 H2 (wipe σ vs) ρ2 F3 H3 (wipe σ vs) ρ2 := al.stp
      refine ht F3 H3 (wipe σ vs) ρ2 d x ρ3 _ (e3.al al) hx ep fun σ3 st3 e4 oth => ?_
      have w3 := oth_wipe oth hv
      refine ⟨w3, ?_⟩
      refine tyes_to ?_
      refine ⟨F3, ρ3, e4, ?_⟩
      rw [hm2]
      intro F4 H4 s4 e5 J1 IT1
      split at hr2
      · rename_i hsz
        obtain ⟨acc', ρ5, hin, hr2⟩ := Rs.cb_of hr2
        have sb : Stp Z F2 H2 (wipe σ vs) ρ2 F4 H4 σ3 ρ4 := (sa.trans st3).trans s4
        -- the inner walk: from the outer's moment on
        have sc := sb.trans (wE_stp (σ := σ3) rfl hb1)
        obtain ⟨k1, k2, k3⟩ := keepD sc fd hd nd
        refine ⟨fun j k H' => k = its2.length - j ∧ j ≤ its2.length ∧ Same F4 H' ∧ ∃ F ρ acc0 vacc0, EA Z F H' (wipe σ3 vs1) ρ ∧ Same F4 F ∧ Stp Z F1 H1 (wipe σ vs) (wipeE ρ1 vs) F H' (wipe σ3 vs1) ρ ∧ F B = none ∧ H' B = some (.lst vacc0) ∧ DAs Z.K F acc0 vacc0 ∧ (∀ i, ¬ OwnI (wipe σ3 vs1) ρ i B) ∧ vacc0.length ≤ acc.length + j ∧ lcL t2 vs1 tru e (its2.drop j) acc0 ρ = .ok acc' ρ5,
          ⟨its2.length, rfl, Nat.zero_le _, e5.sub, F4, _, acc, vacc, turn_ea e5 rfl, Same.refl _, s3.trans sc, k1, k2, da.mono sc.same, k3, by rw [da.length]; exact Nat.le_refl _, hin⟩, ?_⟩
        rintro j k H5 ⟨rfl, hj, s45, F5, ρ6, acc0, vacc0, e6, s5, s15, fd5, hd5, da5, nd5, hl5, hr5⟩
        by_cases hlt2 : j < its2.length
        · refine .inr ⟨IT1.go j H5 (s5.trans e6.sub) hlt2, fun H' => j + 1 ≤ its2.length ∧ Same F4 H' ∧ ∃ F ρ acc0 vacc0, EA Z F H' (wipe σ3 vs1) ρ ∧ Same F4 F ∧ Stp Z F1 H1 (wipe σ vs) (wipeE ρ1 vs) F H' (wipe σ3 vs1) ρ ∧ F B = none ∧ H' B = some (.lst vacc0) ∧ DAs Z.K F acc0 vacc0 ∧ (∀ i, ¬ OwnI (wipe σ3 vs1) ρ i B) ∧ vacc0.length ≤ acc.length + (j + 1) ∧ lcL t2 vs1 tru e (its2.drop (j + 1)) acc0 ρ = .ok acc' ρ5, fun H' z => ⟨its2.length - (j + 1), by omega, rfl, z⟩, fun y H6 yl2 => ?_⟩
          obtain ⟨F6, d2, al2, ed2, hy⟩ := IT1.yl j y F5 H5 H6 s5 e6.sub hlt2 yl2
          have dr2 : its2.drop j = d2 :: its2.drop (j + 1) := by
            rw [List.drop_eq_getElem_cons hlt2]
            have := List.getElem?_eq_getElem hlt2
            rw [ed2] at this
            rw [Option.some.inj this]
          rw [dr2] at hr5
          simp only [lcL, tru, Rs.cb_ok, if_true] at hr5
          obtain ⟨ρ7, ep2, hr5⟩ := Rs.opt_of hr5
          obtain ⟨z, ρ8, hez, hr5⟩ := Rs.cb_of hr5
          have sd : Stp Z F5 H5 (wipe σ3 vs1) ρ6 F6 H6 (wipe σ3 vs1) ρ6 := al2.stp
          refine ht2 F6 H6 (wipe σ3 vs1) ρ6 d2 y ρ7 _ (e6.al al2) hy ep2 fun σ4 st4 e7 oth2 => ?_
          have w4 := oth_wipe oth2 hv2
          refine ⟨w4, ?_⟩
          refine tyes_to ?_
          refine ⟨F6, ρ7, e7, ?_⟩
          rw [hez]
          intro F7 H7 s7 e8 v hvy
          have se := ((sd.trans st4).trans s7).trans (wE_stp w4 hb1)
          obtain ⟨l1, l2, l3⟩ := keepD se fd5 hd5 nd5
          have sf := s15.trans se
          have s47 : Same F4 F7 := (s5.trans se.same)
          refine ⟨vacc0, l2, line_lt (by omega), hlt2, ?_, F7, _, acc0 ++ [z], vacc0 ++ [v], growD (turn_ea e8 w4) l1 l2 l3, s47, ?_, l1, upd_same, (da5.mono se.same).append (.cons hvy .nil), l3, by rw [List.length_append]; simp; omega, hr5⟩
          · exact s47.trans (growD (turn_ea e8 w4) l1 l2 l3 (o := .lst (vacc0 ++ [v]))).sub
          · refine ⟨sf.same, sf.new, fun b o h n => ?_, sf.own, sf.par, sf.len⟩
            rw [upd_ne fun z => by rw [z, hB] at h; cases h]; exact sf.keep b o h n
        · have ej : j = its2.length := by omega
          subst ej
          rw [List.drop_length] at hr5
          cases hr5
          refine .inl ⟨IT1.st H5 (s5.trans e6.sub), hlt, ?_⟩
          have ww : wipe (wipe σ3 vs1) vs = wipe σ vs := (wipe_wipe h12).trans w3
          have sg := s15.trans (wE_stp ww hb)
          have nB : ∀ i, ¬ OwnI (wipe σ vs) (wipeE ρ5 vs) i B := fun i z => by
            rw [← ww] at z
            exact nd5 i (wipe_own z).2
          exact ⟨F5, _, acc', vacc0, turn_ea e6 ww, sg, fd5, hd5, da5, nB, by omega, hr2⟩
      · cases hr2
    · have ei : i = its.length := by omega
      subst ei
      rw [List.drop_length] at hr2
      simp only [lc2L] at hr2
      cases hr2
      exact .inl ⟨IT.st H2 (s3.same.trans e3.sub), lc_end st1 e1 hB q fd hd da nd s3 e3⟩⟩
theorem d_lc2 {elt tg iter tg2 iter2 : Expr} {scope : Scope} {own : List (Str × Nat)} {vs1 : List Nat} {pos : Pos} {m m2 : En → Rs (List D)} {g g2 : TG} {t t2 : Tg} {e : En → Rs D} (ht : GOk Z g t) (hv : ∀ i ∈ t.sl, i ∈ own.map (·.2)) (hb : ∀ i ∈ own.map (·.2), i ∉ Z.bp) (ht2 : GOk Z g2 t2) (hv2 : ∀ i ∈ t2.sl, i ∈ vs1) (h12 : ∀ i ∈ vs1, i ∈ own.map (·.2))
    (h : PE X (.ListComp elt [⟨tg, iter, [], 0⟩, ⟨tg2, iter2, [], 0⟩] scope pos) (tLc2 (dI Z W m) g tYes (dI Z W0 m2) g2 tYes (dE Z W0 e) (own.map (·.2)) vs1)) : DF X Z W (.ListComp elt [⟨tg, iter, [], 0⟩, ⟨tg2, iter2, [], 0⟩] scope pos) (lc2G m t (own.map (·.2)) m2 t2 vs1 e) := ⟨pe_imp h (lc2_in ht hv hb ht2 hv2 h12)⟩
/-! isinstance with a built-in class -/
def tyN : D → Option String
  | .lst _ => some "list"
  | .tup _ => some "tuple"
  | .str _ => some "str"
  | .int _ => some "int"
  | .bl _ => some "bool"
  | .non => some "NoneType"
  | .dct _ _ => some "dict"
  | _ => none
theorem sqL_ty {K : PySem.W.Frag} {a : Addr} {vs : List V} (h : SqL K H a vs) : TyX K H (.ref a) (.type "list") := by
  rcases h with (h | ⟨o, h⟩) | ⟨o, its, n, h1, h2, h3, h4, h5⟩
  · exact .base (.lst h)
  · exact .base (.frz h)
  · exact .kList h1 h2
theorem sqT_ty {K : PySem.W.Frag} {a : Addr} {vs : List V} (h : SqT K H a vs) : TyX K H (.ref a) (.type "tuple") := by
  rcases h with (h | ⟨o, h⟩) | ⟨o, its, n, h1, h2, h3, h4⟩
  · exact .base (.tup h)
  · exact .fTuple h
  · exact .kTuple h1 h2
theorem ty_of {K : Kt} {x : D} {v : V} {T : String} (p : Pk K F H x v) (e : tyN x = some T) : TyX K.K H v (.type T) := by
  cases x with
  | lst xs => cases e; obtain ⟨a, vs, rfl, h1, _⟩ := p; exact sqL_ty h1
  | tup xs => cases e; obtain ⟨a, vs, rfl, h1, _⟩ := p; exact sqT_ty h1
  | str s => cases e; rw [pk_str p]; exact .base (.str s)
  | int s => cases e; rw [pk_int p]; exact .base (.int s)
  | bl s => cases e; rw [pk_bl p]; exact .base (.bl s)
  | non => cases e; rw [pk_non p]; exact .base .non
  | dct ks xs => cases e; obtain ⟨a, vs, rfl, h1, _⟩ := p; exact .base (.dK h1)
  | _ => cases e
def isTyF (B : String) (x : D) : Option S := (tyN x).bind fun T => (kitB T B).map sB
theorem isTy_in {B : String} {h : En → Rs Hd} : ∀ σ H Q, dF Z W (op1 (isTyF B) h) σ H Q → tCB (rIsi Z.K.K) (tCons (dO Z W h) (tCons (tC (.ty B)) tNil)) σ H Q := fun σ H Q q =>
  op1_in (r := fun v H Q => rIsi Z.K.K [v, .ty B] H Q) (fun F H x v s Q sm p e k => by
    obtain ⟨T, e1, e⟩ := Option.bind_eq_some_iff.mp e
    obtain ⟨b, e2, rfl⟩ := Option.map_eq_some_iff.mp e
    exact ⟨_, _, _, _, _, rfl, .ty B, ty_of p e1, kit_ty e2, k.dat sm DA.bl⟩) σ H Q q
theorem d_isTy {x : Expr} {es : List Expr} {B : String} {h : En → Rs Hd} {pp pos : Pos} (hg : Gl X "isinstance") (hm : X.mg "isinstance" = none) (hb : bootBuiltins "isinstance" = some (.builtin "isinstance"))
    (ha : L2.PA X (x :: es) (tCons (dO Z W h) (tCons (tC (.ty B)) tNil))) (hk : X.K = Z.K.K := by rfl) (he : starEach (x :: es) X.env = (false, eval x X.env) :: starEach es X.env := by rfl) (hpl : NoStars X pos es := by rfl) :
    DF X Z W (.Call (.Name "isinstance" pp) (x :: es) [] pos) (op1 (isTyF B) h) := ⟨pe_imp (pe_callB (hk ▸ call_isi) hg hm hb ha (by decide) (by decide) he hpl) isTy_in⟩
/-! max of a list of ints, or a default -/
def mxI : Int → List Int → Int
  | m, [] => m
  | m, x :: xs => mxI (if x > m then x else m) xs
def maxF (xs : D) (d : D) : Option S := match xs, d with
  | .lst ys, .int k => (intsOf ys).map fun ns => sI (match ns with | [] => k | n :: ns => mxI n ns)
  | _, _ => none
theorem mxI_ge : ∀ (l : List Int) (m : Int), m ≤ mxI m l ∧ ∀ x ∈ l, x ≤ mxI m l
  | [], m => ⟨Int.le_refl _, fun x h => by cases h⟩
  | y :: l, m => by
    by_cases c : y > m
    · have e : mxI m (y :: l) = mxI y l := by simp [mxI, c]
      obtain ⟨h1, h2⟩ := mxI_ge l y
      rw [e]
      refine ⟨by omega, fun x hx => ?_⟩
      rcases List.mem_cons.mp hx with rfl | hx
      · exact h1
      · exact h2 x hx
    · have e : mxI m (y :: l) = mxI m l := by simp [mxI, c]
      obtain ⟨h1, h2⟩ := mxI_ge l m
      rw [e]
      refine ⟨h1, fun x hx => ?_⟩
      rcases List.mem_cons.mp hx with rfl | hx
      · omega
      · exact h2 x hx
theorem mxI_mem : ∀ (l : List Int) (m : Int), mxI m l = m ∨ mxI m l ∈ l
  | [], m => .inl rfl
  | y :: l, m => by
    have e : mxI m (y :: l) = mxI (if y > m then y else m) l := rfl
    rw [e]
    rcases mxI_mem l (if y > m then y else m) with h | h
    · rw [h]; split
      · exact .inr List.mem_cons_self
      · exact .inl rfl
    · exact .inr (List.mem_cons_of_mem _ h)
theorem d_maxd {x nm : Str} {p pos kp : Pos} {e k : Expr} {h1 h2 : En → Rs Hd} {r : TE} (ha : DO X Z W e h1) (hb : DO X Z W k h2) (h : PE X e (dO Z W h1) → PE X k (dO Z W h2) → PE X (.Call (.Name x p) [e] [⟨some nm, k, kp⟩] pos) r) (hr : ∀ σ H Q, dF Z W (op2 maxF h1 h2) σ H Q → r σ H Q) : DF X Z W (.Call (.Name x p) [e] [⟨some nm, k, kp⟩] pos) (op2 maxF h1 h2) := ⟨pe_imp (h ha.pe hb.pe) hr⟩
theorem max_in {h1 h2 : En → Rs Hd} : ∀ σ H Q, dF Z W (op2 maxF h1 h2) σ H Q → tOp (fun x y H Q => rMaxD Z.K.K [x] [y] H Q) (dO Z W h1) (dO Z W h2) σ H Q := op2_in fun F H x y v w s Q sm p q e k => by
  unfold maxF at e
  split at e
  · rename_i ys d
    obtain ⟨ns, e1, rfl⟩ := Option.map_eq_some_iff.mp e
    obtain ⟨a, vs, rfl, h1, h2⟩ := p.lst'
    rw [ints_v e1 h2] at h1
    have k := k.dat sm DA.int
    refine ⟨a, ns, d, rfl, by rw [pk_int q], h1, fun z => ?_, fun m hne hm hge => ?_⟩
    · subst z; exact k
    · cases ns with
      | nil => exact absurd rfl hne
      | cons n ns =>
        obtain ⟨g1, g2⟩ := mxI_ge ns n
        have : m = mxI n ns := by
          have a1 : m ≤ mxI n ns := by
            rcases List.mem_cons.mp hm with rfl | hm
            · exact g1
            · exact g2 m hm
          have a2 : mxI n ns ≤ m := by
            rcases mxI_mem ns n with z | z
            · rw [z]; exact hge n List.mem_cons_self
            · exact hge _ (List.mem_cons_of_mem _ z)
          omega
        rw [this]; exact k
  · cases e
end

section
variable {Z : Zt} {W : WX} {X : Cx}
/-! ### a list of one's own grows by another one -/
def ext1 (i : Nat) (m : En → Rs S) : En → Rs S := fun ρ => match ρ[i]? with
  | some (.L _) => (m ρ).bind fun s ρ1 => match s, ρ1[i]? with
    | .L ys, some (.L xs) => if xs.length + ys.length ≤ 100000 then .ok (.d .non) (ρ1.set i (.L (xs ++ ys))) else .stuck
    | _, _ => .stuck
  | _ => .stuck
theorem ext1_in {i : Nat} {m : En → Rs S} : ∀ σ H Q, dF Z W (ext1 i m) σ H Q → tBM Z.K.K "list" rExtend (tVar i) (tCons (dF Z W m) tNil) σ H Q := fun σ H Q ⟨F, ρ, ea, q⟩ => by
  unfold ext1 at q
  split at q
  · rename_i xs0 h0
    obtain ⟨a, vs0, ha, _, hH, _⟩ := ownL ea h0
    refine ⟨.ref a, ha, .inl ⟨rfl, vs0, SqL.of hH⟩, F, ρ, ea, q.bind.mono fun s ρ1 F1 H1 st e1 q w hw => ?_⟩
    show rExtend _ _ _ _
    split at q
    · rename_i ys xs h1
      split at q
      · rename_i hl
        obtain ⟨a', vs, ha', fa, hH1, hd⟩ := ownL e1 h1
        rw [ha] at ha'; cases ha'
        obtain ⟨hs, ho⟩ := hw
        obtain ⟨b, zs, ew, fb, hb, hz⟩ := hs
        cases ew
        have hdl := hd.length
        have hzl := hz.length
        refine ⟨a, b, vs, zs, rfl, rfl, hH1, hb, by rw [hdl, hzl]; exact Nat.le_of_lt (line_lt (by omega)), ?_⟩
        obtain ⟨e2, s2⟩ := mutO (s' := .L (xs ++ ys)) (o := .lst (vs ++ zs)) e1 h1 rfl ha ⟨a, vs ++ zs, rfl, fa, upd_same, hd.append hz⟩
        exact q F1 _ s2 e2 .non ⟨⟨_, rfl, DA.non⟩, fun z => nomatch z⟩
      · exact q.elim
    · exact q.elim
  · exact q.elim
theorem d_ext1 {i : Nat} {e : Expr} {m : En → Rs S} (h : PE X e (tBM X.K "list" rExtend (tVar i) (tCons (dF Z W m) tNil))) (hk : X.K = Z.K.K := by rfl) : DF X Z W e (ext1 i m) := ⟨pe_imp h (hk ▸ ext1_in)⟩
theorem pa_df {e : Expr} {m : En → Rs S} (he : DF X Z W e m) (hs : starEach [e] X.env = [(false, eval e X.env)] := by rfl) : L2.PA X [e] (tCons (dF Z W m) tNil) := pa_cons he.pe pa_nil hs
end
/-! ### enumerate over a tuple -/
/-- turn by turn a new pair: the number, the item -/
def Iet (K : PySem.W.Frag) (a : Addr) (n : Nat) : It where
  go := fun i H => ∃ xs : List V, SqT K H a xs ∧ xs.length = n ∧ i < n
  yld := fun i H v H' => ∃ p x, v = .ref p ∧ H p = none ∧ H' = upd H p (.tup [.int (i : Nat), x]) ∧ ∀ xs, SqT K H a xs → xs[i]? = some x
  stop := fun i H => ∃ xs : List V, SqT K H a xs ∧ xs.length = n ∧ n ≤ i
/-- where such a walk stands at turn i -/
def EtAt (a e it : Addr) (n i : Nat) (h : Heap) : Prop := i ≤ n ∧ e ≠ it ∧ a ≠ it ∧ a ≠ e ∧ (∃ old, IsEnum h e it (0 + (i : Int)) old) ∧ h.IsTupleIter it a i
def etG {P : Program} {w : World} {A : Around} {elts : List Expr} {kk : Nat} {tpos : Pos} (hA : A.handled = none) {a e it : Addr} (n1 : e ≠ it) (n2 : a ≠ it) (n3 : a ≠ e) (its : Array Value) :=
  GoesN.enumFrom (prog := P) (w := w) (A := A) (elts := elts) (x1 := kk) (pos := tpos) 0 (Draws.tuple (prog := P) (w := w) (A := A.in1) hA it a n2 its) e n1 (by simp [n1, n3.symm]) (by simp)
theorem inv_pair {X : Cx} {pins : List (Addr × Obj)} {σ : L2.St} {H : Hp} {s : Shared} {h' : Heap} {tk T : Nat} {e it : Addr} {i : Int} {t : Tok} {x : V} {u : Value} (I : Inv X pins σ H s) (f1 : FpOk X pins H e) (f2 : FpOk X pins H it)
    (k : ∀ b o, b ∉ [e, it] → s.heap.get? b = some o → h'.get? b = some o) (hT : s.heap.objs.size ≤ T) (ht : h'.IsTuple T #[.int i t, u]) (r : RelV x u) : Inv X pins σ (upd H T (.tup [.int i, x])) { s with heap := h', toks := tk } := by
  have fr : H T = none := I.hok.fresh hT
  have old : ∀ b o, s.heap.get? b = some o → b ≠ T := fun b o q z => by subst z; exact absurd (Nat.lt_of_lt_of_le (Heap.lt_size q) hT) (Nat.lt_irrefl _)
  have ne : ∀ b u, H b = some u → b ∉ [e, it] := fun b u q z => by
    rcases List.mem_cons.mp z with z | z
    · rw [z, f1.1] at q; cases q
    · rw [List.mem_singleton.mp z, f2.1] at q; cases q
  have up : ∀ {b u}, H b = some u → upd H T (.tup [.int i, x]) b = some u := fun {b u} q => by
    rw [upd_ne fun z => by rw [z, fr] at q; cases q]; exact q
  refine I.step (g' := s.gens) (d' := s.drawn) (ch := [e, it]) ?ch (fun b o _ _ hc q _ => k b o hc q) (fun b o _ _ hc q _ => ⟨o.slots, k b o hc q⟩) ?fre ?the (fun b xs q => up q) (fun b o u q => up q) (fun b ps q => ⟨#[], by rw [up q]; simp⟩) ?ns ?hok I.bare
  case ch =>
    intro b hb
    rcases List.mem_cons.mp hb with z | z
    · subst z; exact ⟨f1.2.2.2.1, f1.2.1, f1.2.2.2.2.1, f1.2.2.2.2.2⟩
    · have z := List.mem_singleton.mp z
      subst z; exact ⟨f2.2.2.2.1, f2.2.1, f2.2.2.2.2.1, f2.2.2.2.2.2⟩
  case fre => exact fun b o hc q n => by rw [upd_ne (old b o q)]; exact n
  case the => exact fun b o hc q => ⟨o, k b o hc q⟩
  case ns =>
    rintro m ⟨o, es, ep, ho, r⟩
    refine ⟨o, es, ep, k _ o (fun z => ?_) ho, r⟩
    rcases List.mem_cons.mp z with z | z
    · exact f1.2.1 z.symm
    · exact f2.2.1 (List.mem_singleton.mp z).symm
  case hok =>
    intro b u' q
    by_cases c : b = T
    · subst c
      rw [upd_same] at q
      cases q
      exact ⟨by show 2 ≤ sizeLine; decide, [.int i t, u], .cons ⟨t, rfl⟩ (.cons r .nil), ht⟩
    · rw [upd_ne c] at q
      refine (I.hok b u' q).stay (fun d v hd z => k d v ?_ z) (fun d z => up z) fun d xs z => up z
      rcases hd with z | z
      · rw [z]; exact ne b u' q
      · exact ne d _ z
theorem inv_rest {X : Cx} {pins : List (Addr × Obj)} {σ : L2.St} {H : Hp} {s : Shared} {h' : Heap} {tk : Nat} {e it : Addr} (I : Inv X pins σ H s) (f1 : FpOk X pins H e) (f2 : FpOk X pins H it)
    (k : ∀ b o, b ∉ [e, it] → s.heap.get? b = some o → h'.get? b = some o) : Inv X pins σ H { s with heap := h', toks := tk } := by
  have ne : ∀ b u, H b = some u → b ∉ [e, it] := fun b u q z => by
    rcases List.mem_cons.mp z with z | z
    · rw [z, f1.1] at q; cases q
    · rw [List.mem_singleton.mp z, f2.1] at q; cases q
  refine I.step (g' := s.gens) (d' := s.drawn) (ch := [e, it]) (fun b hb => ?_) (fun b o _ _ hc q _ => k b o hc q) (fun b o _ _ hc q _ => ⟨o.slots, k b o hc q⟩) (fun _ _ _ _ n => n) (fun b o hc q => ⟨o, k b o hc q⟩) (fun _ _ q => q) (fun _ _ _ q => q)
    (fun b ps q => ⟨#[], by rw [q]; simp⟩) (fun m ⟨o, es, ep, ho, r⟩ => ⟨o, es, ep, k _ o (fun z => ?_) ho, r⟩) (fun b u q => (I.hok b u q).stay (fun d v hd z => k d v (hd.elim (fun y => y ▸ ne b u q) (ne d _)) z) (fun _ z => z) fun _ _ z => z) I.bare
  · rcases List.mem_cons.mp hb with z | z
    · subst z; exact ⟨f1.2.2.2.1, f1.2.1, f1.2.2.2.2.1, f1.2.2.2.2.2⟩
    · have z := List.mem_singleton.mp z
      subst z; exact ⟨f2.2.2.2.1, f2.2.1, f2.2.2.2.2.1, f2.2.2.2.2.2⟩
  · rcases List.mem_cons.mp z with z | z
    · exact f1.2.1 z.symm
    · exact f2.2.1 (List.mem_singleton.mp z).symm
theorem turn_et {P : Program} {w : World} {K : PySem.W.Frag} {elts : List Expr} {kk : Nat} {tpos : Pos} (a e it : Addr) (n : Nat) : Turn P w K (.Tuple elts kk tpos) (Iet K a n) [e, it] e (EtAt a e it n) where
  mem := List.mem_cons_self
  obj := by
    rintro i h ⟨_, _, _, _, ⟨old, he⟩, o, ho, hc, hd⟩ b hb
    rcases List.mem_cons.mp hb with z | z
    · subst z; exact ⟨_, he, fun v z => by cases z⟩
    · have z := List.mem_singleton.mp z
      subst z; exact ⟨o, ho, fun v z => by rw [hd] at z; cases z⟩
  keep := by
    rintro i h h' ⟨n0, n1, n2, n3, ⟨old, he⟩, st⟩ k
    exact ⟨n0, n1, n2, n3, ⟨old, k e (by simp) _ he⟩, st.at fun o q => k it (by simp) o q⟩
  item := by
    rintro X rfl rfl rfl hc i pins s σ H E I hf st hg
    obtain ⟨n0, n1, n2, n3, he, hi⟩ := st
    obtain ⟨xs, hq, el, hl⟩ := hg
    subst el
    obtain ⟨its, rv, p, _⟩ := I.tuple hq
    have hx : xs[i]? = some xs[i] := List.getElem?_eq_getElem hl
    obtain ⟨u, hu, ru⟩ := rv.get hx
    have hlt : i < its.toArray.size := by rw [List.size_toArray, ← rv.length]; exact hl
    refine wpAny_mono ((etG (I.ok.hd hc) n1 n2 n3 its.toArray).goes i s (fun v s2 => ∃ x H', Inv X pins σ H' s2 ∧ RelV x v ∧ (Iet X.K a xs.length).yld i H x H' ∧ EtAt a e it xs.length (i + 1) s2.heap ∧ ∀ b ∈ [e, it], H' b = none) E hlt ⟨he, hi, p⟩ ?_) (fun r s1 h => h) fun _ _ z => z
    rintro v h' tk ⟨T, t, y, rfl, hT, hy, ht⟩ ⟨he', hi', _⟩ k _
    have ey : y = u := by
      have : its[i]? = some y := by simpa using hy
      rw [hu] at this; cases this; rfl
    subst ey
    have fr : H T = none := I.hok.fresh hT
    refine ⟨.ref T, upd H T (.tup [.int (0 + (i : Int)), xs[i]]), inv_pair I (hf e (by simp)) (hf it (by simp)) k hT ht ru, rfl, ⟨T, xs[i], rfl, fr, by rw [Int.zero_add], fun ys hys => ?_⟩, ⟨hl, n1, n2, n3, he', hi'⟩, fun b hb => ?_⟩
    · rw [I.tuple_inj hys hq]; exact hx
    · rw [upd_ne fun z => ?_]
      · exact (hf b hb).1
      · subst z
        rcases List.mem_cons.mp hb with z | z
        · subst z; obtain ⟨old, he⟩ := he; exact absurd (Nat.lt_of_lt_of_le (Heap.lt_size he) hT) (Nat.lt_irrefl _)
        · have z := List.mem_singleton.mp z
          subst z; obtain ⟨o, ho, _⟩ := hi; exact absurd (Nat.lt_of_lt_of_le (Heap.lt_size ho) hT) (Nat.lt_irrefl _)
  done := by
    rintro X rfl rfl rfl hc i pins s σ H E I hf st hg
    obtain ⟨n0, n1, n2, n3, he, hi⟩ := st
    obtain ⟨xs, hq, el, hl⟩ := hg
    subst el
    obtain ⟨its, rv, p, _⟩ := I.tuple hq
    have ei : i = its.toArray.size := by rw [List.size_toArray, ← rv.length]; omega
    subst ei
    exact wpAny_mono ((etG (elts := elts) (kk := kk) (tpos := tpos) (I.ok.hd hc) n1 n2 n3 its.toArray).stops s (fun s1 => Inv X pins σ H s1) E ⟨he, hi, p⟩ fun h' tk k _ => inv_rest I (hf e (by simp)) (hf it (by simp)) k) (fun r s1 h => h) fun _ _ z => z
  self := fun A i s Q E st q => let ⟨_, _, _, _, ⟨_, he⟩, _⟩ := st; wpAny_pyIter_enum he q
/-- enumerate of anything that begins a walk, told by its one argument -/
theorem enum_new {v : Value} {o : Obj} {G : Heap → Prop} (B : Begins v o G) :
    Meets (Builtin.«enumerate.__new__» ⟨[.type "enumerate", v], []⟩) (fun _ R s => G s.heap ∧
      R (.ok (.ret (.ref (s.heap.push o).objs.size))) { s with heap := (s.heap.push o).push { cls := .type "enumerate", data := .fields #[.none, .bool false, .ref s.heap.objs.size, rawInt 0, .none, .none] } }) :=
  .of_wp fun prog w A R s h => by
    have e0 : isType (.type "enumerate") = pure true := rfl
    have e1 : ((Value.type "enumerate" == Value.type "enumerate") = true) := by decide
    have last : ∀ s' : Shared, s' = s → wpAny (model prog w) A.in1 (do
        let x ← pyIter v
        let y ← Builtin.SmallTypes.newRecord (.type "enumerate") (Builtin.SmallTypes.ownedTupleFields ++ [x, rawInt 0, Value.none, Value.none])
        PySem.ret y) (fun fin s' => ∃ v, fin = PySem.Fin.done (.ret v) ∧ R (.ok (.ret v)) s') (fun e s' => R (.error e) s') s' := by
      rintro s' rfl
      refine wpAny_bind (B.iter prog w A.in1 _ s' _ h.1 ?_)
      refine wpAny_bind (wpAny_newObj_type (data := .fields #[.none, .bool false, .ref s'.heap.objs.size, rawInt 0, .none, .none]) ?_)
      exact wpAny_pure ⟨_, rfl, h.2⟩
    unfold Builtin.«enumerate.__new__» Builtin.SmallTypes.newClass
    simp only [sub_enumerate, e0, e1, pure_bind, Bool.not_true, Bool.false_eq_true, if_false, if_true]
    refine wpAny_bind (wpAny_bind (wpAny_stack_any fun st => wpAny_pure ?_))
    split <;> first | exact last s rfl | (split <;> exact last s rfl)
theorem call_enum {prog : Program} {w : World} {A : Around} {E : Value → Shared → Prop} {s : Shared} {v : Value} {o : Obj} {G : Heap → Prop} {Q : Value → Shared → Prop} (B : Begins v o G) (hG : G s.heap)
    (q : ∀ h', IsEnum h' (s.heap.objs.size + 1) s.heap.objs.size 0 .none → h'.get? s.heap.objs.size = some o → (∀ b u, s.heap.get? b = some u → h'.get? b = some u) → h'.objs.size = s.heap.objs.size + 2 → Q (.ref (s.heap.objs.size + 1)) { s with heap := h' }) :
    wpAny (model prog w) A (call (.type "enumerate") [v]) Q E s := by
  have sz : (s.heap.push o).objs.size = s.heap.objs.size + 1 := Heap.size_push ..
  refine callType_new (hne := by decide) (hct := F.typeCall_enumerate_1 _) (hcn := F.newCall_enumerate_1 _) (hok := fun obj => F.args_object_init_2 obj _) (entryN := F.entry_enumerate_new) (ft := F.called_enumerate) (g := enum_new B) ⟨hG, ?_⟩
  have new : IsEnum ((s.heap.push o).push { cls := .type "enumerate", data := .fields #[.none, .bool false, .ref s.heap.objs.size, rawInt 0, .none, .none] }) (s.heap.objs.size + 1) s.heap.objs.size 0 .none := sz ▸ Heap.get?_push_size (s.heap.push o) rfl
  show _ ∧ Q _ _
  rw [sz]
  exact ⟨⟨_, new, rfl⟩, q _ new (Heap.get?_push_of_some _ (Heap.get?_push_size _ B.free)) (fun b u z => Heap.get?_push_of_some _ (Heap.get?_push_of_some _ z)) (by rw [Heap.size_push, sz])⟩
/-- the rule -/
def tEt (K : PySem.W.Frag) (ta : TA) : TI := fun σ H R => ta σ H fun vs H1 => ∃ a xs, vs = [.ref a] ∧ SqT K H1 a xs ∧ R (Iet K a xs.length) H1
theorem pi_et {X : Cx} {e : Expr} {ta : TA} {p pos tpos : Pos} {elts : List Expr} {kk : Nat} (hg : Gl X "enumerate") (hm : X.mg "enumerate" = none) (ha : L2.PA X [e] ta) (hs : starEach [e] X.env = [(false, eval e X.env)] := by rfl) :
    PI X (.Tuple elts kk tpos) (.Call (.Name "enumerate" p) [e] [] pos) (tEt X.K ta) where
  run pins s σ H R I h := by
    refine Call_ (ld_blt I hg hm (show bootBuiltins "enumerate" = some (.type "enumerate") from rfl) (PyProof.Rows.callWith_type1 (thn (ha.run pos pins s σ H _ I h) ?_) hs rfl))
    rintro us s1 ⟨vs, H1, I1, r, a, xs, rfl, hq, q⟩
    obtain ⟨u, rfl, ru⟩ : ∃ u, us = [u] ∧ RelV (.ref a) u := by
      cases r with
      | cons r t => cases t; exact ⟨_, rfl, r⟩
    cases ru
    obtain ⟨its, rv, pt, _⟩ := I1.tuple hq
    refine call_enum (begins_tuple a its.toArray) pt fun h' he hi k hz => ?_
    have la : a < s1.heap.objs.size := by obtain ⟨o, ho, _⟩ := pt; exact Heap.lt_size ho
    have at_ : EtAt a (s1.heap.objs.size + 1) s1.heap.objs.size xs.length 0 h' := ⟨Nat.zero_le _, Nat.succ_ne_self _, Nat.ne_of_lt la, Nat.ne_of_lt (Nat.lt_succ_of_lt la), ⟨_, he⟩, _, hi, rfl, rfl⟩
    refine wpAny_pyIter_enum he ⟨_, [s1.heap.objs.size + 1, s1.heap.objs.size], _, _, H1, rfl, I1.kept (t' := s1.toks) k, turn_et a _ _ xs.length, at_, fun b hb => ?_, q⟩
    rcases List.mem_cons.mp hb with z | z
    · subst z; exact I1.fpOk (Nat.le_succ _) (I1.hok.fresh (Nat.le_succ _))
    · have z := List.mem_singleton.mp z
      subst z; exact I1.fpOk (Nat.le_refl _) (I1.hok.fresh (Nat.le_refl _))
section
variable {Z : Zt} {W : WX} {X : Cx}
theorem it_et {F : Hp} {a : Addr} {vs : List V} {xs : List D} (h : SqT Z.K.K F a vs) (d : DAs Z.K F xs vs) : ItD Z F (Iet Z.K.K a vs.length) (enumD 0 xs) where
  go := fun i H s hi => ⟨vs, same_t s h, rfl, by rw [enumD_len] at hi; rw [d.length]; exact hi⟩
  yl := fun i x F1 H H' s1 s2 hi y => by
    obtain ⟨p, v, rfl, fr, rfl, q⟩ := y
    obtain ⟨z, ez, dz⟩ := d.get (q vs (same_t (s1.trans s2) h))
    exact ⟨upd F1 p _, .tup [.int i, z], Al.add s2 fr _, by rw [enumD_get, ez, Nat.zero_add]; rfl, DA.tup (.inl (.inl upd_same)) (.cons DA.int (.cons ((dz.mono s1).mono (same_new (s2.free fr))) .nil))⟩
  st := fun H s => ⟨vs, same_t s h, rfl, by rw [enumD_len, d.length]; exact Nat.le_refl _⟩
def enmT (m : En → Rs D) : En → Rs (List D) := fun ρ => (m ρ).bind fun x ρ' => match x with
  | .tup xs => .ok (enumD 0 xs) ρ'
  | _ => .stuck
theorem i_enumT {e : Expr} {m : En → Rs D} {p pos tpos : Pos} {elts : List Expr} {kk : Nat} (hg : Gl X "enumerate") (hm : X.mg "enumerate" = none) (ha : DE X Z W e m) (hk : X.K = Z.K.K := by rfl) (hs : starEach [e] X.env = [(false, eval e X.env)] := by rfl) :
    DI X Z W (.Tuple elts kk tpos) (.Call (.Name "enumerate" p) [e] [] pos) (enmT m) := ⟨pi_imp (pi_et hg hm (pa_cons ha.pe pa_nil hs) hs) fun σ H R ⟨F, ρ, ea, q⟩ => by
  refine ⟨F, ρ, ea, q.bind.mono fun x ρ' F' H' st e q v hv => ?_⟩
  cases x with
  | tup xs =>
    obtain ⟨a, vs, rfl, h1, h2⟩ := hv.tup'
    exact ⟨a, vs, rfl, by rw [hk]; exact same_t e.sub h1, by rw [hk]; exact q.here e _ (it_et h1 h2)⟩
  | _ => exact q.elim⟩
end

section
variable {Z : Zt} {W : WX} {X : Cx} {F H F1 H1 F2 H2 : Hp} {σ : L2.St} {ρ ρ1 ρ2 : En}
/-- something new, held by no slot, is changed -/
theorem ea_loose (e : EA Z F H σ ρ) {b : Addr} {o : HO} (fb : F b = none) (nb : ∀ i, ¬ OwnI σ ρ i b) : EA Z F (upd H b o) σ ρ where
  sub := fun c w h => by rw [upd_ne fun z => by rw [z, fb] at h; cases h]; exact e.sub _ _ h
  len := e.len
  sl := fun i s h => by
    have hs := e.sl i s h
    have own : ∀ a, σ[i]?.join = some (.ref a) → s.own = true → a ≠ b := fun a ha so z => by
      refine nb i ⟨?_, s, h, so⟩
      cases q : σ[i]? with
      | none => rw [q] at ha; cases ha
      | some t => rw [q] at ha; rw [show t = some (.ref a) from ha, z]
    cases s with
    | un => trivial
    | d x => exact hs
    | X c xs => exact hs
    | L xs => obtain ⟨a, vs, h1, h2, h3, h4⟩ := hs; exact ⟨a, vs, h1, h2, by rw [upd_ne (own a h1 rfl)]; exact h3, h4⟩
    | M ks xs => obtain ⟨a, vs, h1, h2, h3, h4⟩ := hs; exact ⟨a, vs, h1, h2, by rw [upd_ne (own a h1 rfl)]; exact h3, h4⟩
    | T ks xs => obtain ⟨a, vs, h1, h2, h3, h4⟩ := hs; exact ⟨a, vs, h1, h2, by rw [upd_ne (own a h1 rfl)]; exact h3, h4⟩
    | O c xs => obtain ⟨nm, fs, a, dx, vs, h0, h1, h2, h3, h4⟩ := hs; exact ⟨nm, fs, a, dx, vs, h0, h1, h2, by rw [upd_ne (own a h1 rfl)]; exact h3, h4⟩
  dis := e.dis
theorem stp_loose (s : Stp Z F H σ ρ F1 H1 σ ρ1) {b : Addr} {o : HO} (ob : Ori H σ ρ b) : Stp Z F H σ ρ F1 (upd H1 b o) σ ρ1 where
  same := s.same
  new := s.new
  keep := fun c w h n => by
    by_cases z : c = b
    · subst z
      rcases ob with ⟨i, q⟩ | q
      · exact absurd q (n i)
      · rw [h] at q; cases q
    · rw [upd_ne z]; exact s.keep c w h n
  own := s.own
  par := s.par
  len := s.len
def mutR (m1 : En → Rs S) (f : List D → D → Option (List D × D)) (m2 : En → Rs D) : En → Rs S := fun ρ => (m1 ρ).bind fun s ρ1 => match s with
  | .L xs => (m2 ρ1).bind fun x ρ2 => Rs.opt (f xs x) fun p => .ok (.d p.2) ρ2
  | _ => .stuck
theorem mutR_in {m1 : En → Rs S} {f : List D → D → Option (List D × D)} {m2 : En → Rs D} {r : V → List V → Hp → VK → Prop} (ok : OkM1 Z r f) : ∀ σ H Q, dF Z W (mutR m1 f m2) σ H Q → tBM Z.K.K "list" r (dF Z W m1) (dL Z W (lsc m2 ls0)) σ H Q := fun σ H Q ⟨F, ρ, ea, q⟩ => by
  unfold mutR at q
  refine ⟨F, ρ, ea, ?_⟩
  cases h1 : m1 ρ with
  | stuck => rw [h1] at q; exact q.elim
  | exc c xs ρ1 => rw [h1] at q; exact q
  | ok s ρ1 =>
    rw [h1] at q
    intro F1 H1 st1 e1 v hv
    rw [Rs.bind_ok] at q
    cases s with
    | L xs =>
      obtain ⟨hs, ho⟩ := hv
      obtain ⟨b, vs, ew, fb, hb, hd⟩ := hs
      cases ew
      obtain ⟨ob, nb⟩ := ho rfl b rfl
      refine ⟨.inl ⟨rfl, vs, SqL.of hb⟩, F1, ρ1, e1, ?_⟩
      unfold lsc
      revert q
      cases hm : m2 ρ1 with
      | stuck => exact fun z => z.elim
      | exc c ys ρ2 => exact fun z F' H' cls dd st e xa => z F' H' cls dd (st1.trans st) e xa
      | ok x ρ2 =>
        intro q F2 H2 st2 e2 ws0 hw
        obtain ⟨w, r0, rfl, hx, hr⟩ := hw.cons'
        rw [hr.nil']
        simp only [Rs.bind_ok] at q
        obtain ⟨p, ep, q⟩ := q.opt
        have hb2 := st2.keep b _ hb nb
        have fb2 : F2 b = none := by
          cases z : F2 b with
          | none => rfl
          | some o =>
            rcases st2.new b (by rw [z]; exact fun k => nomatch k) with y | ⟨i, y⟩ | y
            · exact absurd fb y
            · exact absurd y (nb i)
            · rw [hb] at y; cases y
        have nb2 : ∀ i, ¬ OwnI σ ρ2 i b := fun i z => by
          rcases st2.own i b z with ⟨j, y⟩ | y
          · exact nb j y
          · rw [hb] at y; cases y
        have d2 := hd.mono st2.same
        refine ok F2 H2 b vs xs x w p Q e2.sub hb2 d2 hx ep fun u ws hu hws => ?_
        exact q F2 _ (stp_loose (st1.trans st2) ob) (ea_loose e2 fb2 nb2) u ⟨⟨u, rfl, hu⟩, fun z => nomatch z⟩
    | _ => exact q.elim
theorem d_mutR {e : Expr} {r : V → List V → Hp → VK → Prop} {m1 : En → Rs S} {f : List D → D → Option (List D × D)} {m2 : En → Rs D} (h : PE X e (tBM X.K "list" r (dF Z W m1) (dL Z W (lsc m2 ls0)))) (ok : OkM1 Z r f) (hk : X.K = Z.K.K := by rfl) : DF X Z W e (mutR m1 f m2) := ⟨pe_imp h (hk ▸ mutR_in ok)⟩
end

section
variable {Z : Zt} {W : WX} {X : Cx} {F H F1 H1 F2 H2 : Hp} {σ : L2.St} {ρ ρ1 ρ2 : En}
/-- a new thing that no slot holds stays through what follows -/
theorem loose_stays (st : Stp Z F H σ ρ F1 H1 σ ρ1) {b : Addr} {o : HO} (fb : F b = none) (hb : H b = some o) (nb : ∀ i, ¬ OwnI σ ρ i b) : H1 b = some o ∧ F1 b = none ∧ ∀ i, ¬ OwnI σ ρ1 i b := by
  refine ⟨st.keep b _ hb nb, ?_, fun i z => ?_⟩
  · cases z : F1 b with
    | none => rfl
    | some o =>
      rcases st.new b (by rw [z]; exact fun k => nomatch k) with y | ⟨i, y⟩ | y
      · exact absurd fb y
      · exact absurd y (nb i)
      · rw [hb] at y; cases y
  · rcases st.own i b z with ⟨j, y⟩ | y
    · exact nb j y
    · rw [hb] at y; cases y
theorem das_rep {K : Kt} {F : Hp} {xs : List D} {vs : List V} (h : DAs K F xs vs) : ∀ n : Nat, DAs K F (List.replicate n xs).flatten (List.replicate n vs).flatten
  | 0 => .nil
  | n + 1 => by rw [List.replicate_succ, List.replicate_succ, List.flatten_cons, List.flatten_cons]; exact h.append (das_rep h n)
/-- a new list, so many times -/
def repG (m : En → Rs S) (k : En → Rs Hd) : En → Rs S := fun ρ => (m ρ).bind fun s ρ1 => match s with
  | .L xs => (k ρ1).bind fun h ρ2 => Rs.opt (h.res ρ2) fun y => match y with
    | .int n => if -(2 ^ 63) ≤ n ∧ n < 2 ^ 63 ∧ xs.length * n.toNat ≤ 100000 then .ok (.L (List.replicate n.toNat xs).flatten) ρ2 else .stuck
    | _ => .stuck
  | _ => .stuck
theorem repG_in {m : En → Rs S} {k : En → Rs Hd} : ∀ σ H Q, dF Z W (repG m k) σ H Q → tOp rRep (dF Z W m) (dO Z W k) σ H Q := fun σ H Q ⟨F, ρ, ea, q⟩ =>
  ⟨F, ρ, ea, q.bind.mono fun s ρ1 F1 H1 st1 e1 q v hv => by
    cases s with
    | L xs =>
      obtain ⟨hs, ho⟩ := hv
      obtain ⟨b, vs, ew, fb, hb, hd⟩ := hs
      cases ew
      obtain ⟨ob, nb⟩ := ho rfl b rfl
      refine ⟨F1, ρ1, e1, q.bind.mono fun h ρ2 F2 H2 st2 e2 q w hw => ?_⟩
      obtain ⟨y, ey, q⟩ := q.opt
      have py := hw.pk e2 ey
      cases y with
      | int n =>
        simp only at q
        split at q
        · rename_i hn
          obtain ⟨n1, n2, n3⟩ := hn
          have hd2 := DAs.mono st2.same _ _ hd
          refine ⟨b, n, vs, rfl, pk_int py, (loose_stays st2 fb hb nb).1, n1, n2, by rw [hd.length]; exact line_of n3, fun p hp => ?_⟩
          exact (Po.back (st1.trans st2) e2 q).L e2.sub (das_rep hd2 n.toNat) p hp
        · exact q.elim
      | _ => exact q.elim
    | _ => exact q.elim⟩
theorem d_rep {a b : Expr} {pos : Pos} {m : En → Rs S} {k : En → Rs Hd} (h1 : DF X Z W a m) (h2 : DO X Z W b k) : DF X Z W (.BinOp a .Mult b pos) (repG m k) := ⟨pe_imp (pe_op op_rep h1.pe h2.pe) repG_in⟩
/-! xs.index(y) -/
def idxL (y : V) : List V → Nat → Option Nat
  | [], _ => none
  | z :: zs, j => if eqV z y = true then some j else idxL y zs (j + 1)
theorem idxL_at {y : V} : ∀ {zs : List V} {k j : Nat}, idxL y zs k = some j → ∃ i z, j = k + i ∧ zs[i]? = some z ∧ eqV z y = true ∧ ∀ m z', m < i → zs[m]? = some z' → eqV z' y = false
  | [], _, _, h => by cases h
  | z :: zs, k, j, h => by
    unfold idxL at h
    split at h
    · rename_i e; cases h; exact ⟨0, z, rfl, rfl, e, fun m _ hm => absurd hm (Nat.not_lt_zero m)⟩
    · rename_i e
      obtain ⟨i, z1, e1, e2, e3, e4⟩ := idxL_at h
      refine ⟨i + 1, z1, by omega, e2, e3, fun m z' hm hz => ?_⟩
      cases m with
      | zero => cases hz; cases q : eqV z y with
        | false => rfl
        | true => exact absurd q e
      | succ m => exact e4 m z' (by omega) hz
def idxF : D → D → Option S
  | .lst xs, y => if flatD y && xs.all flatD then (idxL (toV y) (xs.map toV) 0).map fun j => sI (j : Nat) else none
  | _, _ => none
theorem das_flat {K : Kt} {F : Hp} : ∀ {xs : List D} {vs : List V}, DAs K F xs vs → xs.all flatD = true → vs = xs.map toV ∧ vs.all flatV = true
  | [], _, h, _ => by rw [h.nil']; exact ⟨rfl, rfl⟩
  | x :: xs, _, h, f => by
    obtain ⟨v, r, rfl, h1, h2⟩ := h.cons'
    rw [List.all_cons, Bool.and_eq_true] at f
    obtain ⟨e1, e2⟩ := flat_v f.1 h1
    obtain ⟨e3, e4⟩ := das_flat h2 f.2
    exact ⟨by rw [List.map_cons, e1, e3], by rw [List.all_cons, e2, e4]; rfl⟩
def idxG (m k : En → Rs D) : En → Rs S := fun ρ => (m ρ).bind fun x ρ1 => match x with
  | .lst xs => (k ρ1).bind fun y ρ2 => Rs.opt (idxF (.lst xs) y) fun s => .ok s ρ2
  | _ => .stuck
theorem da_flat {K : Kt} {F : Hp} {y : D} {w : V} (f : flatD y = true) (h : DA K F y w) : w = toV y ∧ flatV w = true := flat_v f h
theorem idx_in {m k : En → Rs D} : ∀ σ H Q, dF Z W (idxG m k) σ H Q → tBM Z.K.K "list" (rIndex Z.K.K) (dE Z W m) (tCons (dE Z W k) tNil) σ H Q := fun σ H Q ⟨F, ρ, ea, q⟩ => by
  refine ⟨F, ρ, ea, ?_⟩
  unfold idxG at q
  refine q.bind.mono fun x ρ1 F1 H1 st e1 q v hv => ?_
  cases x with
  | lst xs =>
    obtain ⟨c, vs, rfl, c1, c2⟩ := hv.lst'
    refine ⟨.inl ⟨rfl, vs, e1.sub.seq c1⟩, F1, ρ1, e1, q.bind.mono fun y ρ2 F2 H2 st2 e2 q w hw => ?_⟩
    show rIndex _ _ _ _ _
    obtain ⟨s, es, q⟩ := q.opt
    unfold idxF at es
    simp only at es
    split at es
    · rename_i hf
      rw [Bool.and_eq_true] at hf
      obtain ⟨j, ej, rfl⟩ := Option.map_eq_some_iff.mp es
      obtain ⟨f1, f2⟩ := das_flat (DAs.mono st2.same _ _ c2) hf.2
      have fy := flat_v hf.1 hw
      obtain ⟨i, z, e3, e4, e5, e6⟩ := idxL_at ej
      rw [Nat.zero_add] at e3
      subst e3
      rw [← f1] at e4
      refine ⟨c, vs, w, j, z, rfl, rfl, e2.sub.seq (st2.same.seq c1), fy.2, f2, e4, by rw [fy.1]; exact e5, fun m z' hm hz => by rw [fy.1]; exact e6 m z' hm (by rw [← f1]; exact hz), ?_⟩
      exact (Po.back (st.trans st2) e2 q).dat e2.sub DA.int
    · cases es
  | _ => exact q.elim
theorem d_idx {e : Expr} {m k : En → Rs D} (h : PE X e (tBM X.K "list" (rIndex X.K) (dE Z W m) (tCons (dE Z W k) tNil))) (hk : X.K = Z.K.K := by rfl) : DF X Z W e (idxG m k) := ⟨pe_imp h (hk ▸ idx_in)⟩
theorem pa_de {e : Expr} {m : En → Rs D} (he : DE X Z W e m) (hs : starEach [e] X.env = [(false, eval e X.env)] := by rfl) : L2.PA X [e] (tCons (dE Z W m) tNil) := pa_cons he.pe pa_nil hs
end

/-! ### loops of data by an invariant -/
theorem forL_inv {t : Tg} {b : En → Ctl} {its : List D} (I : Nat → En → Prop) (go : ∀ i x ρ, its[i]? = some x → I i ρ → ∃ ρ2 ρ', t.put x ρ = some ρ2 ∧ (b ρ2 = .nx ρ' ∨ b ρ2 = .cnt ρ') ∧ I (i + 1) ρ') {ρ : En} (h : I 0 ρ) : ∃ ρ', forL t b its ρ = .nx ρ' ∧ I its.length ρ' := by
  have key : ∀ (r : List D) (k : Nat) (ρ : En), (∀ i, r[i]? = its[k + i]?) → k + r.length = its.length → I k ρ → ∃ ρ', forL t b r ρ = .nx ρ' ∧ I its.length ρ' := by
    intro r
    induction r with
    | nil => intro k ρ _ l h; exact ⟨ρ, rfl, by rw [← l]; exact h⟩
    | cons x r ih =>
      intro k ρ e l h
      obtain ⟨ρ2, ρ', e1, e2, e3⟩ := go k x ρ (by have := e 0; rw [Nat.add_zero] at this; rw [← this]; rfl) h
      obtain ⟨ρ3, e4, e5⟩ := ih (k + 1) ρ' (fun i => by have := e (i + 1); rw [show k + 1 + i = k + (i + 1) by omega, ← this]; rfl) (by rw [List.length_cons] at l; omega) e3
      refine ⟨ρ3, ?_, e5⟩
      show putC t x ρ _ = _
      unfold putC
      rw [e1]
      rcases e2 with e2 | e2 <;> simp [e2, e4]
  exact key its 0 ρ (fun i => by rw [Nat.zero_add]) (Nat.zero_add _) h
theorem whL_inv {c : En → Rs Bool} {b : En → Ctl} (I P : En → Prop) (mu : En → Nat) (go : ∀ ρ, I ρ → ∃ x ρ1, c ρ = .ok x ρ1 ∧ (x = false → P ρ1) ∧ (x = true → ∃ ρ2, (b ρ1 = .nx ρ2 ∨ b ρ1 = .cnt ρ2) ∧ I ρ2 ∧ mu ρ2 < mu ρ)) : ∀ (n : Nat) (ρ : En), I ρ → mu ρ < n → ∃ ρ', whL c b n ρ = .nx ρ' ∧ P ρ'
  | 0, _, _, h => absurd h (Nat.not_lt_zero _)
  | n + 1, ρ, h, hm => by
    obtain ⟨x, ρ1, e, hf, ht⟩ := go ρ h
    cases x with
    | false => exact ⟨ρ1, by simp [whL, e], hf rfl⟩
    | true =>
      obtain ⟨ρ2, e2, h2, hm2⟩ := ht rfl
      obtain ⟨ρ', e3, h3⟩ := whL_inv I P mu go n ρ2 h2 (by omega)
      refine ⟨ρ', ?_, h3⟩
      rcases e2 with e2 | e2 <;> simp [whL, e, e2, e3]
theorem rgI_get {lo : Int} {n i : Nat} {x : D} (h : (rgI lo n)[i]? = some x) : x = .int (lo + i) ∧ i < n := by
  unfold rgI at h
  rw [List.getElem?_map] at h
  obtain ⟨j, e1, e2⟩ := Option.map_eq_some_iff.mp h
  obtain ⟨e3, e4⟩ := List.getElem?_eq_some_iff.mp e1
  rw [List.getElem_range] at e4
  rw [List.length_range] at e3
  exact ⟨by rw [← e2, ← e4], e3⟩
theorem rgI_len {lo : Int} {n : Nat} : (rgI lo n).length = n := by simp [rgI]
/-- an index from nought on -/
theorem atI_nn {α : Type} {xs : List α} {i : Int} (h0 : 0 ≤ i) (h1 : i < xs.length) : ∃ x, L2.atI xs i = some x ∧ xs[i.toNat]? = some x := by
  have : i.toNat < xs.length := by omega
  refine ⟨xs[i.toNat], ?_, List.getElem?_eq_getElem this⟩
  unfold L2.atI L2.ixN
  rw [if_pos h0, if_pos h1]
  exact List.getElem?_eq_getElem this
section
variable {x : D} {xs : List D} {ks : List Key} {kt : List (List Key)} {c : Nat}
theorem dat_un : S.un.dat = none := rfl
theorem dat_d : (S.d x).dat = some x := rfl
theorem dat_L : (S.L xs).dat = some (.lst xs) := rfl
theorem dat_M : (S.M ks xs).dat = some (.dct ks xs) := rfl
theorem dat_T : (S.T kt xs).dat = some (.dtt kt xs) := rfl
theorem dat_O : (S.O c xs).dat = some (.obj c xs) := rfl
theorem dat_X : (S.X c xs).dat = none := rfl
theorem wn_un : S.un.own = false := rfl
theorem wn_d : (S.d x).own = false := rfl
theorem wn_L : (S.L xs).own = true := rfl
theorem wn_M : (S.M ks xs).own = true := rfl
theorem wn_T : (S.T kt xs).own = true := rfl
theorem wn_O : (S.O c xs).own = true := rfl
theorem wn_X : (S.X c xs).own = false := rfl
theorem res_sl {i : Nat} {ρ : En} : (Hd.sl i).res ρ = (ρ[i]?).bind S.dat := by cases q : ρ[i]? with
  | none => simp [Hd.res, q]
  | some s => simp [Hd.res, q]
theorem res_dt {ρ : En} : (Hd.dt x).res ρ = some x := rfl
end
theorem put_nm {i : Nat} {x : D} {ρ : En} : Tg.put (.nm i) x ρ = some (ρ.set i (.d x)) := by simp [Tg.put]
theorem put_tp {ts : List Tg} {xs : List D} {ρ : En} : Tg.put (.tp ts) (.tup xs) ρ = Tg.puts ts xs ρ := by simp [Tg.put]
theorem put_tl {ts : List Tg} {xs : List D} {ρ : En} : Tg.put (.tp ts) (.lst xs) ρ = Tg.puts ts xs ρ := by simp [Tg.put]
theorem puts_nil {ρ : En} : Tg.puts [] [] ρ = some ρ := by simp [Tg.puts]
theorem puts_cons {t : Tg} {ts : List Tg} {x : D} {xs : List D} {ρ : En} : Tg.puts (t :: ts) (x :: xs) ρ = (t.put x ρ).bind fun ρ' => Tg.puts ts xs ρ' := by simp [Tg.puts]
/-! a comprehension that leaves the slots as they are -/
theorem lcL_map {t : Tg} {vs : List Nat} {e : En → Rs D} (f : D → D) {ρw : En} : ∀ (its acc : List D), (∀ x ∈ its, ∃ ρ2 ρ3, t.put x ρw = some ρ2 ∧ e ρ2 = .ok (f x) ρ3 ∧ wipeE ρ3 vs = ρw) → lcL t vs tru e its acc ρw = .ok (acc ++ its.map f) ρw
  | [], acc, _ => by simp [lcL]
  | x :: its, acc, h => by
    obtain ⟨ρ2, ρ3, e1, e2, e3⟩ := h x List.mem_cons_self
    unfold lcL
    rw [e1]
    simp only [Rs.opt_some, tru, Rs.cb_ok, if_true, e2, e3]
    rw [lcL_map f its (acc ++ [f x]) fun y hy => h y (List.mem_cons_of_mem _ hy)]
    simp
theorem lcG_map {m : En → Rs (List D)} {t : Tg} {vs : List Nat} {e : En → Rs D} {its : List D} {ρ ρ1 : En} (f : D → D) (hm : m ρ = .ok its ρ1) (hl : its.length ≤ 100000) (h : ∀ x ∈ its, ∃ ρ2 ρ3, t.put x (wipeE ρ1 vs) = some ρ2 ∧ e ρ2 = .ok (f x) ρ3 ∧ wipeE ρ3 vs = wipeE ρ1 vs) :
    lcG m t vs tru e ρ = .ok (.L (its.map f)) (resE ρ1 (wipeE ρ1 vs) vs) := by
  unfold lcG
  rw [hm]
  simp only [Rs.bind_ok, if_pos hl]
  rw [lcL_map f its [] h]
  rfl
theorem lcL_mapA {α : Type} {t : Tg} {vs : List Nat} {e : En → Rs D} (a b : α → D) {ρw : En} : ∀ (l : List α) (acc : List D), (∀ x ∈ l, ∃ ρ2 ρ3, t.put (a x) ρw = some ρ2 ∧ e ρ2 = .ok (b x) ρ3 ∧ wipeE ρ3 vs = ρw) → lcL t vs tru e (l.map a) acc ρw = .ok (acc ++ l.map b) ρw
  | [], acc, _ => by simp [lcL]
  | x :: l, acc, h => by
    obtain ⟨ρ2, ρ3, e1, e2, e3⟩ := h x List.mem_cons_self
    rw [List.map_cons]
    unfold lcL
    rw [e1]
    simp only [Rs.opt_some, tru, Rs.cb_ok, if_true, e2, e3]
    rw [lcL_mapA a b l (acc ++ [b x]) fun y hy => h y (List.mem_cons_of_mem _ hy)]
    simp
theorem lcG_mapA {α : Type} {m : En → Rs (List D)} {t : Tg} {vs : List Nat} {e : En → Rs D} {ρ ρ1 : En} (a b : α → D) (l : List α) (hm : m ρ = .ok (l.map a) ρ1) (hl : l.length ≤ 100000) (h : ∀ x ∈ l, ∃ ρ2 ρ3, t.put (a x) (wipeE ρ1 vs) = some ρ2 ∧ e ρ2 = .ok (b x) ρ3 ∧ wipeE ρ3 vs = wipeE ρ1 vs) :
    lcG m t vs tru e ρ = .ok (.L (l.map b)) (resE ρ1 (wipeE ρ1 vs) vs) := by
  unfold lcG
  rw [hm]
  simp only [Rs.bind_ok, List.length_map, if_pos hl]
  rw [lcL_mapA a b l [] h]
  rfl
theorem lc2L_map {t : Tg} {vs : List Nat} {m2 : En → Rs (List D)} {t2 : Tg} {vs1 : List Nat} {e : En → Rs D} (f : D → List D) {ρw : En} : ∀ (its acc : List D), acc.length + (its.map f).flatten.length ≤ 100000 →
    (∀ x ∈ its, ∃ ρ1 ρ2 ρ3 its2, t.put x ρw = some ρ1 ∧ m2 ρ1 = .ok its2 ρ2 ∧ its2.length = (f x).length ∧ (∀ acc, lcL t2 vs1 tru e its2 acc (wipeE ρ2 vs1) = .ok (acc ++ f x) ρ3) ∧ wipeE ρ3 vs = ρw) → lc2L t vs m2 t2 vs1 e its acc ρw = .ok (acc ++ (its.map f).flatten) ρw
  | [], acc, _, _ => by simp [lc2L]
  | x :: its, acc, hl, h => by
    obtain ⟨ρ1, ρ2, ρ3, its2, e1, e2, e3, e4, e5⟩ := h x List.mem_cons_self
    rw [List.map_cons, List.flatten_cons, List.length_append] at hl
    unfold lc2L
    rw [e1]
    simp only [Rs.opt_some, e2, Rs.cb_ok]
    rw [if_pos (by omega), e4]
    simp only [Rs.cb_ok, e5]
    rw [lc2L_map f its (acc ++ f x) (by rw [List.length_append]; omega) fun y hy => h y (List.mem_cons_of_mem _ hy)]
    simp
theorem lc2G_map {m : En → Rs (List D)} {t : Tg} {vs : List Nat} {m2 : En → Rs (List D)} {t2 : Tg} {vs1 : List Nat} {e : En → Rs D} {its : List D} {ρ ρ1 : En} (f : D → List D) (hm : m ρ = .ok its ρ1) (hl : (its.map f).flatten.length ≤ 100000)
    (h : ∀ x ∈ its, ∃ ρ2 ρ3 ρ4 its2, t.put x (wipeE ρ1 vs) = some ρ2 ∧ m2 ρ2 = .ok its2 ρ3 ∧ its2.length = (f x).length ∧ (∀ acc, lcL t2 vs1 tru e its2 acc (wipeE ρ3 vs1) = .ok (acc ++ f x) ρ4) ∧ wipeE ρ4 vs = wipeE ρ1 vs) :
    lc2G m t vs m2 t2 vs1 e ρ = .ok (.L (its.map f).flatten) (resE ρ1 (wipeE ρ1 vs) vs) := by
  unfold lc2G
  rw [hm]
  simp only [Rs.bind_ok]
  rw [lc2L_map f its [] (by simpa using hl) h]
  rfl
/-! ### what a body returns -/
def Rt (r : Ctl) (P : S → En → Prop) : Prop := ∃ s ρ, r = .ret s ρ ∧ P s ρ
section
variable {m k t u : En → Ctl} {e : En → Rs S} {ρ ρ1 : En} {P : S → En → Prop}
theorem rt_bc (ρ' : En) (h : m ρ = .nx ρ') (h2 : Rt (k ρ') P) : Rt (bc m k ρ) P := by unfold bc; rw [h]; exact h2
theorem rt_b0 (h : Rt (k ρ) P) : Rt (bc b0 k ρ) P := h
theorem rt_assoc {n : En → Ctl} (h : Rt (bc m (bc n k) ρ) P) : Rt (bc (bc m n) k ρ) P := by
  obtain ⟨s, ρ', e, p⟩ := h
  refine ⟨s, ρ', ?_, p⟩
  unfold bc at e ⊢
  cases q : m ρ <;> rw [q] at e <;> simp_all
theorem rt_ret {s : S} (h : e ρ = .ok s ρ1) (p : P s ρ1) : Rt (ret e ρ) P := ⟨s, ρ1, by unfold ret; rw [h]; rfl, p⟩
theorem rt_bret {s : S} (h : e ρ = .ok s ρ1) (p : P s ρ1) : Rt (bc (ret e) k ρ) P := ⟨s, ρ1, by unfold bc ret; rw [h]; rfl, p⟩
theorem rt_if {c : En → Rs Bool} (x : Bool) (h : c ρ = .ok x ρ1) (ht : x = true → Rt (bc t k ρ1) P) (hu : x = false → Rt (bc u k ρ1) P) : Rt (bc (ifS c t u) k ρ) P := by
  unfold bc ifS
  rw [h]
  cases x with
  | true => exact ht rfl
  | false => exact hu rfl
theorem rt_for {f : En → Rs (List D)} {tg : Tg} {b : En → Ctl} (its : List D) (I : Nat → En → Prop) (h : f ρ = .ok its ρ1) (h0 : I 0 ρ1)
    (go : ∀ i x ρ, its[i]? = some x → I i ρ → ∃ ρ2 ρ', tg.put x ρ = some ρ2 ∧ (b ρ2 = .nx ρ' ∨ b ρ2 = .cnt ρ') ∧ I (i + 1) ρ') (fin : ∀ ρ', I its.length ρ' → Rt (k ρ') P) : Rt (bc (forS f tg b) k ρ) P := by
  obtain ⟨ρ', e1, e2⟩ := forL_inv I go h0
  exact rt_bc ρ' (by unfold forS; rw [h]; exact e1) (fin ρ' e2)
theorem rt_while {c : En → Rs Bool} {b : En → Ctl} {n : Nat} (I J : En → Prop) (mu : En → Nat) (h0 : I ρ) (hm : mu ρ < n)
    (go : ∀ ρ, I ρ → ∃ x ρ1, c ρ = .ok x ρ1 ∧ (x = false → J ρ1) ∧ (x = true → ∃ ρ2, (b ρ1 = .nx ρ2 ∨ b ρ1 = .cnt ρ2) ∧ I ρ2 ∧ mu ρ2 < mu ρ)) (fin : ∀ ρ', J ρ' → Rt (k ρ') P) : Rt (bc (whL c b n) k ρ) P := by
  obtain ⟨ρ', e1, e2⟩ := whL_inv I J mu go n ρ h0 hm
  exact rt_bc ρ' e1 (fin ρ' e2)
theorem rt_fn {N : Nat} {bp : List Nat} {b : En → Ctl} {ss : List S} {Q : S → List S → Prop} (ok : okB bp 0 ss = true) (h : Rt (b (ss ++ List.replicate (N - ss.length) .un)) fun s ρ' => Q s (My.fin ss ρ')) : ∃ s ss', fnM N bp b ss = .ok s ss' ∧ Q s ss' := by
  obtain ⟨s, ρ', e, p⟩ := h
  exact ⟨s, _, by unfold fnM; rw [if_pos ok, e]; rfl, p⟩
theorem fn_nx {N : Nat} {bp : List Nat} {b : En → Ctl} {ss : List S} (ρ' : En) (ok : okB bp 0 ss = true) (h : b (ss ++ List.replicate (N - ss.length) .un) = .nx ρ') : fnM N bp b ss = .ok (.d .non) (My.fin ss ρ') := by
  unfold fnM; rw [if_pos ok, h]; rfl
theorem bc_nx {ρ' : En} (h : m ρ = .nx ρ') : bc m k ρ = k ρ' := by unfold bc; rw [h]; rfl
end

/-! ### equality of plain data -/
/-- plain data, so deep at most: no object, no dict; texts of true signs -/
def Pd : Nat → D → Prop
  | _, .non => True
  | _, .bl _ => True
  | _, .int _ => True
  | _, .str s => PyData.strOk s = true
  | n + 1, .tup xs => ∀ x ∈ xs, Pd n x
  | n + 1, .lst xs => ∀ x ∈ xs, Pd n x
  | _, _ => False
theorem pds_py {n : Nat} (ih : ∀ x : D, Pd n x → ∃ p, toPy x = some p ∧ p.canLay0 = true ∧ p.depth ≤ n + 1 ∧ PyData.eqv p p = true) : ∀ xs : List D, (∀ x ∈ xs, Pd n x) → ∃ ps, toPys xs = some ps ∧ PyData.canLayAll0 ps = true ∧ PyData.depthAll ps ≤ n + 1 ∧ PyData.eqvAll ps ps = true
  | [], _ => ⟨[], rfl, by simp [PyData.canLayAll0], by simp [PyData.depthAll], by simp [PyData.eqvAll]⟩
  | x :: xs, h => by
    obtain ⟨p, e1, c1, d1, q1⟩ := ih x (h x List.mem_cons_self)
    obtain ⟨ps, e2, c2, d2, q2⟩ := pds_py ih xs fun y hy => h y (List.mem_cons_of_mem _ hy)
    exact ⟨p :: ps, by simp [toPys, e1, e2], by simp [PyData.canLayAll0, c1, c2], by simp only [PyData.depthAll]; omega, by simp [PyData.eqvAll, q1, q2]⟩
theorem pd_py : ∀ (n : Nat) (x : D), Pd n x → ∃ p, toPy x = some p ∧ p.canLay0 = true ∧ p.depth ≤ n + 1 ∧ PyData.eqv p p = true
  | n, .non, _ => ⟨_, rfl, by simp [PyData.canLay0], by simp [PyData.depth], by simp [PyData.eqv]⟩
  | n, .bl b, _ => ⟨_, rfl, by simp [PyData.canLay0], by simp [PyData.depth], by simp [PyData.eqv]⟩
  | n, .int i, _ => ⟨_, rfl, by simp [PyData.canLay0], by simp [PyData.depth], by simp [PyData.eqv]⟩
  | n, .str s, h => ⟨_, rfl, by cases n <;> simpa [PyData.canLay0, Pd] using h, by simp [PyData.depth], by simp [PyData.eqv]⟩
  | n + 1, .tup xs, h => by
    obtain ⟨ps, e, c, d, q⟩ := pds_py (fun x hx => pd_py n x hx) xs h
    exact ⟨.tuple ps, by simp [toPy, e], by simp [PyData.canLay0, c], by simp only [PyData.depth]; omega, by simp [PyData.eqv, q]⟩
  | n + 1, .lst xs, h => by
    obtain ⟨ps, e, c, d, q⟩ := pds_py (fun x hx => pd_py n x hx) xs h
    exact ⟨.list ps, by simp [toPy, e], by simp [PyData.canLay0, c], by simp only [PyData.depth]; omega, by simp [PyData.eqv, q]⟩
  | 0, .tup _, h => by simp [Pd] at h
  | 0, .lst _, h => by simp [Pd] at h
  | 0, .dct _ _, h => by simp [Pd] at h
  | n + 1, .dct _ _, h => by simp [Pd] at h
  | 0, .dtt _ _, h => by simp [Pd] at h
  | n + 1, .dtt _ _, h => by simp [Pd] at h
  | 0, .obj _ _, h => by simp [Pd] at h
  | n + 1, .obj _ _, h => by simp [Pd] at h
theorem deq_self {n : Nat} {x : D} (h : Pd n x) (hn : n ≤ 60) : deq x x = some true := by
  obtain ⟨p, e, c, d, q⟩ := pd_py n x h
  have sh : SeqAt.shaped p = true := Bool.and_eq_true_iff.mpr ⟨c, decide_eq_true (by omega)⟩
  cases x with
  | non => rfl
  | int i => simp [deq]
  | bl i => simp [deq]
  | str i => simp [deq]
  | tup xs => show (toPy (.tup xs)).bind _ = _; rw [e]; simp [sh, q]
  | lst xs => show (toPy (.lst xs)).bind _ = _; rw [e]; simp [sh, q]
  | dct _ _ => cases n <;> simp [Pd] at h
  | dtt _ _ => cases n <;> simp [Pd] at h
  | obj _ _ => cases n <;> simp [Pd] at h
theorem eq_self {n : Nat} {x : D} (h : Pd n x) (hn : n ≤ 60) : eqF x x = some (sB true) := by unfold eqF; rw [deq_self h hn]; rfl
theorem ne_self {n : Nat} {x : D} (h : Pd n x) (hn : n ≤ 60) : neF x x = some (sB false) := by unfold neF; rw [deq_self h hn]; rfl
/-- whether a list is empty, asked by == [] -/
theorem deq_nil {n : Nat} {xs : List D} (h : Pd n (.lst xs)) (hn : n ≤ 60) : deq (.lst xs) (.lst []) = some xs.isEmpty := by
  obtain ⟨p, e, c, d, q⟩ := pd_py n _ h
  have sh : SeqAt.shaped p = true := Bool.and_eq_true_iff.mpr ⟨c, decide_eq_true (by omega)⟩
  have s0 : SeqAt.shaped (PyData.list []) = true := by simp [SeqAt.shaped, PyData.canLay0, PyData.canLayAll0, PyData.depth, PyData.depthAll]
  show (toPy (.lst xs)).bind _ = _
  rw [e]
  simp only [Option.bind_some, toPy, toPys, Option.map_some, sh, s0, and_self, if_true]
  unfold toPy at e
  obtain ⟨ps, e1, rfl⟩ := Option.map_eq_some_iff.mp e
  cases xs with
  | nil => simp [toPys] at e1; subst e1; simp [PyData.eqv, PyData.eqvAll]
  | cons x xs =>
    simp only [toPys] at e1
    obtain ⟨y, _, e2⟩ := Option.bind_eq_some_iff.mp e1
    obtain ⟨ys, _, rfl⟩ := Option.map_eq_some_iff.mp e2
    simp [PyData.eqv, PyData.eqvAll]
theorem eq_nil {n : Nat} {xs : List D} (h : Pd n (.lst xs)) (hn : n ≤ 60) : eqF (.lst xs) (.lst []) = some (sB xs.isEmpty) := by unfold eqF; rw [deq_nil h hn]; rfl
theorem ne_nil {n : Nat} {xs : List D} (h : Pd n (.lst xs)) (hn : n ≤ 60) : neF (.lst xs) (.lst []) = some (sB !xs.isEmpty) := by unfold neF; rw [deq_nil h hn]; rfl
theorem Pd.mono : ∀ {n : Nat} {x : D}, Pd n x → Pd (n + 1) x
  | _, .non, _ => trivial
  | _, .bl _, _ => trivial
  | _, .int _, _ => trivial
  | 0, .str _, h => h
  | _ + 1, .str _, h => h
  | n + 1, .tup xs, h => fun x hx => (h x hx).mono
  | n + 1, .lst xs, h => fun x hx => (h x hx).mono
  | 0, .tup _, h => by simp [Pd] at h
  | 0, .lst _, h => by simp [Pd] at h
  | 0, .dct _ _, h => by simp [Pd] at h
  | n + 1, .dct _ _, h => by simp [Pd] at h
  | 0, .dtt _ _, h => by simp [Pd] at h
  | n + 1, .dtt _ _, h => by simp [Pd] at h
  | 0, .obj _ _, h => by simp [Pd] at h
  | n + 1, .obj _ _, h => by simp [Pd] at h
theorem Pd.le {x : D} : ∀ {n m : Nat}, n ≤ m → Pd n x → Pd m x
  | n, 0, h, p => by rw [Nat.le_zero.mp h] at p; exact p
  | n, m + 1, h, p => by
    by_cases q : n = m + 1
    · subst q; exact p
    · exact (Pd.le (m := m) (by omega) p).mono
theorem neF_str {x y : Str} : neF (.str x) (.str y) = some (sB (!decide (x = y))) := rfl
theorem eqF_str {x y : Str} : eqF (.str x) (.str y) = some (sB (decide (x = y))) := rfl
theorem it_rng1 {g : En → Rs (List Hd)} {ρ ρ' : En} {hs : List Hd} {j : Int} (h : g ρ = .ok hs ρ') (hr : resAll ρ' hs = some [.int j]) (h0 : 0 ≤ j) (h1 : j ≤ 1000000) : itN rng1 g ρ = .ok (rgI 0 j.toNat) ρ' := by
  have a : -4611686018427387904 ≤ j := by omega
  have b : j < 4611686018427387904 := by omega
  unfold itN
  rw [h]
  simp [rng1, hr, a, b]
theorem op2_ok {f : D → D → Option S} {h1 h2 : En → Rs Hd} {ρ ρ1 ρ2 : En} {a b : Hd} {x y : D} {s : S} (e1 : h1 ρ = .ok a ρ1) (e2 : h2 ρ1 = .ok b ρ2) (r1 : a.res ρ2 = some x) (r2 : b.res ρ2 = some y) (e : f x y = some s) : op2 f h1 h2 ρ = .ok s ρ2 := by
  unfold op2
  rw [e1, Rs.bind_ok, e2, Rs.bind_ok, r1, Rs.opt_some, r2, Rs.opt_some, e]; rfl
theorem exf_ok {m : En → Rs S} {ρ ρ1 : En} {s : S} {x : D} (e : m ρ = .ok s ρ1) (d : s.dat = some x) : ex (frz m) ρ = .ok (.dt x) ρ1 := by
  unfold ex frz
  rw [e, Rs.bind_ok, d]; rfl
/-! a call, step by step: so that nothing of the called def is ever unfolded -/
theorem callf_ok {n : Nat} {m : List S → Rs S} {g : En → Rs (List Hd)} {ρ ρ1 ρ2 : En} {hs : List Hd} {ss ss' : List S} {s : S} (h : g ρ = .ok hs ρ1) (ha : argsS ρ1 hs = some ss) (e : m ss = .ok s ss') (hb : backS hs ss' ρ1 = ρ2) (hl : hs.length = n := by rfl) (hn : (sls hs).Nodup := by simp [sls]) : callf n m g ρ = .ok s ρ2 := by
  unfold callf
  rw [h, Rs.bind_ok, ha, Rs.opt_some, if_pos ⟨hl, hn⟩, e, ← hb]; rfl
theorem drp_ok {m : En → Rs S} {ρ ρ1 : En} {s : S} (h : m ρ = .ok s ρ1) : drp m ρ = .nx ρ1 := by unfold drp; rw [h]; rfl
theorem set_ok {i : Nat} {m : En → Rs S} {ρ ρ1 : En} {s : S} (h : m ρ = .ok s ρ1) : My.set i m ρ = .nx (ρ1.set i s) := by unfold My.set; rw [h]; rfl
theorem ret_ok {m : En → Rs S} {ρ ρ1 : En} {s : S} (h : m ρ = .ok s ρ1) : ret m ρ = .ret s ρ1 := by unfold ret; rw [h]; rfl
/-! ### loops that may return -/
/-- a loop that goes through, or returns at an item -/
theorem forL_go {t : Tg} {b : En → Ctl} {its : List D} {P : S → En → Prop} (I : Nat → En → Prop) (go : ∀ i x ρ, its[i]? = some x → I i ρ → (∃ ρ2 ρ', t.put x ρ = some ρ2 ∧ (b ρ2 = .nx ρ' ∨ b ρ2 = .cnt ρ') ∧ I (i + 1) ρ') ∨ ∃ ρ2, t.put x ρ = some ρ2 ∧ Rt (b ρ2) P) {ρ : En} (h : I 0 ρ) : (∃ ρ', forL t b its ρ = .nx ρ' ∧ I its.length ρ') ∨ Rt (forL t b its ρ) P := by
  have key : ∀ (r : List D) (k : Nat) (ρ : En), (∀ i, r[i]? = its[k + i]?) → k + r.length = its.length → I k ρ → (∃ ρ', forL t b r ρ = .nx ρ' ∧ I its.length ρ') ∨ Rt (forL t b r ρ) P := by
    intro r
    induction r with
    | nil => intro k ρ _ l h; exact .inl ⟨ρ, rfl, by rw [← l]; exact h⟩
    | cons x r ih =>
      intro k ρ e l h
      have ex : its[k]? = some x := by have := e 0; rw [Nat.add_zero] at this; rw [← this]; rfl
      rcases go k x ρ ex h with ⟨ρ2, ρ', e1, e2, e3⟩ | ⟨ρ2, e1, s, ρ3, e2, p⟩
      · have en : forL t b (x :: r) ρ = forL t b r ρ' := by
          show putC t x ρ _ = _
          unfold putC
          rw [e1]
          rcases e2 with e2 | e2 <;> simp [e2]
        rw [en]
        exact ih (k + 1) ρ' (fun i => by have := e (i + 1); rw [show k + 1 + i = k + (i + 1) by omega, ← this]; rfl) (by rw [List.length_cons] at l; omega) e3
      · refine .inr ⟨s, ρ3, ?_, p⟩
        show putC t x ρ _ = _
        unfold putC
        rw [e1]
        simp [e2]
  exact key its 0 ρ (fun i => by rw [Nat.zero_add]) (Nat.zero_add _) h
theorem rt_forR {f : En → Rs (List D)} {tg : Tg} {b k : En → Ctl} {ρ ρ1 : En} {P : S → En → Prop} (its : List D) (I : Nat → En → Prop) (h : f ρ = .ok its ρ1) (h0 : I 0 ρ1)
    (go : ∀ i x ρ, its[i]? = some x → I i ρ → (∃ ρ2 ρ', tg.put x ρ = some ρ2 ∧ (b ρ2 = .nx ρ' ∨ b ρ2 = .cnt ρ') ∧ I (i + 1) ρ') ∨ ∃ ρ2, tg.put x ρ = some ρ2 ∧ Rt (b ρ2) P) (fin : ∀ ρ', I its.length ρ' → Rt (k ρ') P) : Rt (bc (forS f tg b) k ρ) P := by
  have e : forS f tg b ρ = forL tg b its ρ1 := by unfold forS; rw [h]; rfl
  rcases forL_go (P := P) I go h0 with ⟨ρ', e1, e2⟩ | ⟨s, ρ', e1, p⟩
  · exact rt_bc ρ' (e.trans e1) (fin ρ' e2)
  · exact ⟨s, ρ', by unfold bc; rw [e, e1]; rfl, p⟩
/-! ### what a block comes to -/
def Nx (r : Ctl) (P : En → Prop) : Prop := ∃ ρ, r = .nx ρ ∧ P ρ
section
variable {m k t u : En → Ctl} {ρ ρ1 : En} {P : En → Prop}
theorem nx_bc (ρ' : En) (h : m ρ = .nx ρ') (h2 : Nx (k ρ') P) : Nx (bc m k ρ) P := by unfold bc; rw [h]; exact h2
theorem nx_end (h : m ρ = .nx ρ1) (p : P ρ1) : Nx (m ρ) P := ⟨ρ1, h, p⟩
theorem nx_then (J : En → Prop) (h : Nx (m ρ) J) (h2 : ∀ ρ', J ρ' → Nx (k ρ') P) : Nx (bc m k ρ) P := by
  obtain ⟨ρ', e, j⟩ := h
  exact nx_bc ρ' e (h2 ρ' j)
theorem nx_if {c : En → Rs Bool} (x : Bool) (h : c ρ = .ok x ρ1) (ht : x = true → Nx (t ρ1) P) (hu : x = false → Nx (u ρ1) P) : Nx (ifS c t u ρ) P := by
  unfold ifS
  rw [h]
  cases x with
  | true => exact ht rfl
  | false => exact hu rfl
theorem nx_b0 (p : P ρ) : Nx (b0 ρ) P := ⟨ρ, rfl, p⟩
theorem nx_for {f : En → Rs (List D)} {tg : Tg} {b : En → Ctl} (its : List D) (I : Nat → En → Prop) (h : f ρ = .ok its ρ1) (h0 : I 0 ρ1) (go : ∀ i x ρ, its[i]? = some x → I i ρ → ∃ ρ2, tg.put x ρ = some ρ2 ∧ Nx (b ρ2) (I (i + 1))) (fin : ∀ ρ', I its.length ρ' → P ρ') : Nx (forS f tg b ρ) P := by
  obtain ⟨ρ', e1, e2⟩ := forL_inv (t := tg) (b := b) I (fun i x ρ hx hi => by
    obtain ⟨ρ2, e1, ρ3, e2, e3⟩ := go i x ρ hx hi
    exact ⟨ρ2, ρ3, e1, .inl e2, e3⟩) h0
  exact ⟨ρ', by unfold forS; rw [h]; exact e1, fin ρ' e2⟩
theorem rt_then {P : S → En → Prop} (J : En → Prop) (h : Nx (m ρ) J) (h2 : ∀ ρ', J ρ' → Rt (k ρ') P) : Rt (bc m k ρ) P := by
  obtain ⟨ρ', e, j⟩ := h
  exact rt_bc ρ' e (h2 ρ' j)
end
/-! a comprehension with a test -/
theorem lcL_filter {α : Type} {t : Tg} {vs : List Nat} {c : En → Rs Bool} {e : En → Rs D} (a b : α → D) (p : α → Bool) {ρw : En} : ∀ (l : List α) (acc : List D), (∀ x ∈ l, ∃ ρ2 ρ3, t.put (a x) ρw = some ρ2 ∧ c ρ2 = .ok (p x) ρ3 ∧ (p x = false → wipeE ρ3 vs = ρw) ∧ (p x = true → ∃ ρ4, e ρ3 = .ok (b x) ρ4 ∧ wipeE ρ4 vs = ρw)) →
    lcL t vs c e (l.map a) acc ρw = .ok (acc ++ (l.filter p).map b) ρw
  | [], acc, _ => by simp [lcL]
  | x :: l, acc, h => by
    obtain ⟨ρ2, ρ3, e1, e2, hf, ht⟩ := h x List.mem_cons_self
    rw [List.map_cons]
    unfold lcL
    rw [e1]
    cases hp : p x with
    | false =>
      simp only [Rs.opt_some, e2, hp, Rs.cb_ok, Bool.false_eq_true, if_false, hf hp]
      rw [lcL_filter a b p l acc fun y hy => h y (List.mem_cons_of_mem _ hy)]
      simp [List.filter_cons, hp]
    | true =>
      obtain ⟨ρ4, e4, e5⟩ := ht hp
      simp only [Rs.opt_some, e2, hp, Rs.cb_ok, if_true, e4, e5]
      rw [lcL_filter a b p l (acc ++ [b x]) fun y hy => h y (List.mem_cons_of_mem _ hy)]
      simp [List.filter_cons, hp]
theorem lcG_filter {α : Type} {m : En → Rs (List D)} {t : Tg} {vs : List Nat} {c : En → Rs Bool} {e : En → Rs D} {ρ ρ1 : En} (a b : α → D) (p : α → Bool) (l : List α) (hm : m ρ = .ok (l.map a) ρ1) (hl : l.length ≤ 100000)
    (h : ∀ x ∈ l, ∃ ρ2 ρ3, t.put (a x) (wipeE ρ1 vs) = some ρ2 ∧ c ρ2 = .ok (p x) ρ3 ∧ (p x = false → wipeE ρ3 vs = wipeE ρ1 vs) ∧ (p x = true → ∃ ρ4, e ρ3 = .ok (b x) ρ4 ∧ wipeE ρ4 vs = wipeE ρ1 vs)) :
    lcG m t vs c e ρ = .ok (.L ((l.filter p).map b)) (resE ρ1 (wipeE ρ1 vs) vs) := by
  unfold lcG
  rw [hm]
  simp only [Rs.bind_ok, List.length_map, if_pos hl]
  rw [lcL_filter a b p l [] h]
  rfl

section
open PySem.SeqAt MeetsSeq MeetsSeq2 MeetsSeq3 SeqRoads2
/-- what two items answer, told ahead -/
abbrev Tell := Bool → Eqv
def TMon (T : Tell) : Prop := ∀ r, Mon (T r)
def Answers (X : Cx) (n : Nat) (T : Tell) : Prop := ∀ (r : Bool) (A : Around) (pins : List (Addr × Obj)) (σ : L2.St) (H : Hp) (x y : V), T r x y H → ∀ (s : Shared) (u v : Value), RelV x u → RelV y v → L2.Inv X pins σ H s → L2.Sub X n A →
  wpAny (model X.prog X.w) A (eqBool u v) (fun q s' => q = r ∧ LoopI X pins σ H s') X.xe s
/-- two rows of items, and what a walk along both comes to -/
inductive Row2 (T : Tell) (H : Hp) : Bool → List V → List V → Prop where
  | done : Row2 T H true [] []
  | on {r x y xs ys} : T true x y H → Row2 T H r xs ys → Row2 T H r (x :: xs) (y :: ys)
  | off {x y xs ys} : T false x y H → xs.length = ys.length → Row2 T H false (x :: xs) (y :: ys)
theorem Row2.len {T : Tell} {H : Hp} {r : Bool} {xs ys : List V} (h : Row2 T H r xs ys) : xs.length = ys.length := by
  induction h with
  | done => rfl
  | on _ _ ih => simp [ih]
  | off _ l => simp [l]
def OpB (b : Bool) (r : Bool) : Value := .bool (if b then r else !r)
def codeB (b : Bool) : Int := if b then 2 else 3
section
variable {X : Cx} {n : Nat} {T : Tell} {A : Around} {pins : List (Addr × Obj)} {σ : L2.St} {H : Hp} {a b : Addr} {xs ys : List V} {r : Bool} {R : Result → Shared → Prop}
/-- the loop of two lists from a place on; w: == (true) or != (false) -/
theorem lists_from (w : Bool) (hT : Answers X n T) (mT : TMon T) (sb : L2.Sub X (n + 1) A) (ha : SqL X.K H a xs) (hb : SqL X.K H b ys) (hl : xs.length = ys.length) (he : ∀ e s', X.xe e s' → R (.error e) s')
    (fin : ∀ s', LoopI X pins σ H s' → R (.ok (.ret (OpB w r))) s') {ps qs : List V} (p : Row2 T H r ps qs) : ∀ (i : Nat) (s : Shared), xs.drop i = ps → ys.drop i = qs → LoopI X pins σ H s →
      wpAny (model X.prog X.w) A.in1 (Builtin.«list.__eq__.loop» ⟨[.ref a, .ref b, rawInt i, rawInt (codeB w)], []⟩) (GQ.FinOf X.prog X.w A R) (fun e s' => R (.error e) s') s := by
  induction p with
  | done =>
    intro i s d1 d2 inv
    obtain ⟨H1, I1, e1⟩ := id inv
    obtain ⟨us, ru, ⟨⟨ca, fa, da, za⟩, k, eu, rfl, rfl, rfl⟩, _⟩ := I1.list (ha.ext e1)
    obtain ⟨vs, rv, ⟨⟨cb, fb, db, zb⟩, k2, ev, rfl, rfl, rfl⟩, _⟩ := I1.list (hb.ext e1)
    have goal := fin s inv
    have lu := ru.length
    have lv := rv.length
    have o1 : xs.length ≤ i := List.drop_eq_nil_iff.mp d1
    have none1 : us.toArray[((i : Nat) : Int).toNat]? = none := by simp; omega
    have none2 : vs.toArray[((i : Nat) : Int).toNat]? = none := by simp; omega
    have same : us.toArray.size = vs.toArray.size := by simp; omega
    obtain ⟨hp, gl, dd, tk, os⟩ := s
    cases w <;> (
      wp_walk using AutoSeq1.wpAny_loadPart' eu, AutoSeq1.wpAny_loadPart' ev
      rw [none1, none2]
      wp_walk using AutoSeq1.wpAny_loadPart' eu, AutoSeq1.wpAny_loadPart' ev
      first
        | (show R (.ok (.ret (.bool (us.toArray.size == vs.toArray.size)))) _; rw [same]; simpa [OpB] using goal)
        | (show R (.ok (.ret (.bool (us.toArray.size != vs.toArray.size)))) _; rw [same]; simpa [OpB] using goal))
  | @on r x y ps qs t p ih =>
    intro i s d1 d2 inv
    obtain ⟨H1, I1, e1⟩ := id inv
    obtain ⟨us, ru, ⟨⟨ca, fa, da, za⟩, k, eu, rfl, rfl, rfl⟩, _⟩ := I1.list (ha.ext e1)
    obtain ⟨vs, rv, ⟨⟨cb, fb, db, zb⟩, k2, ev, rfl, rfl, rfl⟩, _⟩ := I1.list (hb.ext e1)
    have lx : xs[i]? = some x := by have := congrArg List.head? d1; simpa using this
    have ly : ys[i]? = some y := by have := congrArg List.head? d2; simpa using this
    obtain ⟨u, hu, rxu⟩ := ru.get lx
    obtain ⟨v, hv, ryv⟩ := rv.get ly
    have at1 : us.toArray[((i : Nat) : Int).toNat]? = some u := by simpa using hu
    have at2 : vs.toArray[((i : Nat) : Int).toNat]? = some v := by simpa using hv
    have ask := hT true A.in1 pins σ H1 x y (mT true x y H H1 e1 t) s u v rxu ryv I1 sb.in1
    have d1' : xs.drop (i + 1) = ps := by rw [← List.tail_drop, d1]; rfl
    have d2' : ys.drop (i + 1) = qs := by rw [← List.tail_drop, d2]; rfl
    have nx : ((i : Int) + 1) = ((i + 1 : Nat) : Int) := by omega
    have more := ih fin (i + 1)
    obtain ⟨hp, gl, dd, tk, os⟩ := s
    cases w <;> (
      wp_walk using AutoSeq1.wpAny_loadPart' eu, AutoSeq1.wpAny_loadPart' ev
      rw [at1, at2]
      refine wpAny_bind (wpAny_mono ask (fun q s2 h2 => ?_) fun e s' z => he e s' z)
      obtain ⟨rfl, H2, I2, e2⟩ := h2
      have more := more s2 d1' d2' ⟨H2, I2, e1.trans e2⟩
      obtain ⟨hp2, gl2, dd2, tk2, os2⟩ := s2
      wp_walk
      rw [nx]
      refine ⟨plainId_quiet plain_eq_loop _, codeAny_builtin entry_eq_loop ?_⟩
      rw [Around.under_plainId plain_eq_loop _]
      exact more)
  | @off x y ps qs t l =>
    intro i s d1 d2 inv
    obtain ⟨H1, I1, e1⟩ := id inv
    obtain ⟨us, ru, ⟨⟨ca, fa, da, za⟩, k, eu, rfl, rfl, rfl⟩, _⟩ := I1.list (ha.ext e1)
    obtain ⟨vs, rv, ⟨⟨cb, fb, db, zb⟩, k2, ev, rfl, rfl, rfl⟩, _⟩ := I1.list (hb.ext e1)
    have lx : xs[i]? = some x := by have := congrArg List.head? d1; simpa using this
    have ly : ys[i]? = some y := by have := congrArg List.head? d2; simpa using this
    obtain ⟨u, hu, rxu⟩ := ru.get lx
    obtain ⟨v, hv, ryv⟩ := rv.get ly
    have at1 : us.toArray[((i : Nat) : Int).toNat]? = some u := by simpa using hu
    have at2 : vs.toArray[((i : Nat) : Int).toNat]? = some v := by simpa using hv
    have ask := hT false A.in1 pins σ H1 x y (mT false x y H H1 e1 t) s u v rxu ryv I1 sb.in1
    obtain ⟨hp, gl, dd, tk, os⟩ := s
    cases w <;> (
      wp_walk using AutoSeq1.wpAny_loadPart' eu, AutoSeq1.wpAny_loadPart' ev
      rw [at1, at2]
      refine wpAny_bind (wpAny_mono ask (fun q s2 h2 => ?_) fun e s' z => he e s' z)
      obtain ⟨rfl, H2, I2, e2⟩ := h2
      have goal := fin s2 ⟨H2, I2, e1.trans e2⟩
      obtain ⟨us2, ru2, ⟨⟨ca2, fa2, da2, za2⟩, k3, eu2, rfl, rfl, rfl⟩, _⟩ := I2.list (ha.ext (e1.trans e2))
      obtain ⟨vs2, rv2, ⟨⟨cb2, fb2, db2, zb2⟩, k4, ev2, rfl, rfl, rfl⟩, _⟩ := I2.list (hb.ext (e1.trans e2))
      obtain ⟨u2, hu2, _⟩ := ru2.get lx
      obtain ⟨v2, hv2, _⟩ := rv2.get ly
      have at3 : us2.toArray[((i : Nat) : Int).toNat]? = some u2 := by simpa using hu2
      have at4 : vs2.toArray[((i : Nat) : Int).toNat]? = some v2 := by simpa using hv2
      obtain ⟨hp2, gl2, dd2, tk2, os2⟩ := s2
      wp_walk using AutoSeq1.wpAny_loadPart' eu2, AutoSeq1.wpAny_loadPart' ev2
      rw [at3, at4]
      wp_walk using AutoSeq1.wpAny_loadPart' eu2, AutoSeq1.wpAny_loadPart' ev2
      exact goal)
/-- what two rows answer: walked along, or of different lengths -/
def Rows2 (T : Tell) (H : Hp) (r : Bool) (xs ys : List V) : Prop := Row2 T H r xs ys ∨ xs.length ≠ ys.length ∧ r = false
def opW (w : Bool) : CmpOp := if w then .Eq else .NotEq
theorem lists_ask {s : Shared} (w : Bool) (hT : Answers X n T) (mT : TMon T) (sb : L2.Sub X (n + 1) A) (I : L2.Inv X pins σ H s) (ha : SqL X.K H a xs) (hb : SqL X.K H b ys) (p : Rows2 T H r xs ys) :
    wpAny (model X.prog X.w) A (richCompare (opW w) (.ref a) (.ref b)) (fun v s' => v = OpB w r ∧ LoopI X pins σ H s') X.xe s := by
  have inv : LoopI X pins σ H s := ⟨H, I, Ext.rfl'⟩
  obtain ⟨us, ru, ⟨⟨ca, fa, da, za⟩, k, eu, rfl, rfl, rfl⟩, _⟩ := I.list ha
  obtain ⟨vs, rv, ⟨⟨cb, fb, db, zb⟩, k2, ev, rfl, rfl, rfl⟩, _⟩ := I.list hb
  have lu := ru.length
  have lv := rv.length
  have f := AutoSeq1.sub_list_list
  have su : us.toArray.size = us.length := by simp
  have sv : vs.toArray.size = vs.length := by simp
  obtain ⟨ua, hua⟩ : ∃ ua, ua = us.toArray := ⟨_, rfl⟩
  obtain ⟨va, hva⟩ : ∃ va, va = vs.toArray := ⟨_, rfl⟩
  rw [← hua] at eu su
  rw [← hva] at ev sv
  rcases p with p | ⟨ne, rfl⟩
  · have l := p.len
    have go := lists_from (R := wants (fun v s' => v ≠ .notImplemented ∧ v = OpB w r ∧ LoopI X pins σ H s') X.xe) w hT mT sb ha hb l (fun _ _ z => z) (fun s' z => ⟨(by cases w <;> exact fun z => nomatch z), rfl, z⟩) p 0 s rfl rfl inv
    have nn : ¬ (ua.size != va.size) = true := by simp; omega
    clear su sv hua hva
    cases w
    · refine wpAny_richCompare_same_room (op := .NotEq) ⟨_, eu, rfl⟩ ⟨_, ev, rfl⟩ F.slot_list_ne (GQ.call_here F.slot_list_ne ⟨_, eu, rfl⟩ F.entry_list_ne (F.args_list_ne_2 _ _) ?_) sb.room.units0
      obtain ⟨hp, gl, dd, tk, os⟩ := s
      wp_walk using AutoSeq1.wpAny_loadPart' eu, AutoSeq1.wpAny_loadPart' ev
      refine ⟨plainId_quiet plain_eq_loop _, codeAny_builtin entry_eq_loop ?_⟩
      rw [Around.under_plainId plain_eq_loop _]
      exact go
    · refine wpAny_richCompare_same_room (op := .Eq) ⟨_, eu, rfl⟩ ⟨_, ev, rfl⟩ F.slot_list_eq (GQ.call_here F.slot_list_eq ⟨_, eu, rfl⟩ F.entry_list_eq (F.args_list_eq_2 _ _) ?_) sb.room.units0
      obtain ⟨hp, gl, dd, tk, os⟩ := s
      wp_walk using AutoSeq1.wpAny_loadPart' eu, AutoSeq1.wpAny_loadPart' ev
      refine ⟨plainId_quiet plain_eq_loop _, codeAny_builtin entry_eq_loop ?_⟩
      rw [Around.under_plainId plain_eq_loop _]
      exact go
  · have nn : (ua.size != va.size) = true := by simp; omega
    clear su sv hua hva
    cases w
    · refine wpAny_richCompare_same_room (op := .NotEq) ⟨_, eu, rfl⟩ ⟨_, ev, rfl⟩ F.slot_list_ne (GQ.call_here F.slot_list_ne ⟨_, eu, rfl⟩ F.entry_list_ne (F.args_list_ne_2 _ _) ?_) sb.room.units0
      obtain ⟨hp, gl, dd, tk, os⟩ := s
      wp_walk using AutoSeq1.wpAny_loadPart' eu, AutoSeq1.wpAny_loadPart' ev
      exact ⟨(fun z => nomatch z), rfl, inv⟩
    · refine wpAny_richCompare_same_room (op := .Eq) ⟨_, eu, rfl⟩ ⟨_, ev, rfl⟩ F.slot_list_eq (GQ.call_here F.slot_list_eq ⟨_, eu, rfl⟩ F.entry_list_eq (F.args_list_eq_2 _ _) ?_) sb.room.units0
      obtain ⟨hp, gl, dd, tk, os⟩ := s
      wp_walk using AutoSeq1.wpAny_loadPart' eu, AutoSeq1.wpAny_loadPart' ev
      exact ⟨(fun z => nomatch z), rfl, inv⟩
/-- what a walk along two tuples comes to -/
inductive RowT (T : Tell) (H : Hp) : Bool → List V → List V → Prop where
  | done : RowT T H true [] []
  | short {y ys} : RowT T H false [] (y :: ys)
  | long {x xs} : RowT T H false (x :: xs) []
  | on {r x y xs ys} : T true x y H → RowT T H r xs ys → RowT T H r (x :: xs) (y :: ys)
  | off {x y xs ys} : T false x y H → RowT T H false (x :: xs) (y :: ys)
/-- where the walk stands: the items that are left, and what they come to -/
def Midst (X : Cx) (pins : List (Addr × Obj)) (σ : L2.St) (H : Hp) (T : Tell) (r : Bool) (m n : Nat) (rest : List (Value × Value)) (s' : Shared) : Prop :=
  ∃ (ps qs : List V) (us vs : List Value), rest = us.zip vs ∧ Vals ps us ∧ Vals qs vs ∧ RowT T H r ps qs ∧ m + vs.length = n + us.length ∧ LoopI X pins σ H s'
theorem tuples_ask {s : Shared} (w : Bool) (hT : Answers X n T) (mT : TMon T) (sb : L2.Sub X (n + 1) A) (I : L2.Inv X pins σ H s) (ha : SqT X.K H a xs) (hb : SqT X.K H b ys) (p : RowT T H r xs ys) :
    wpAny (model X.prog X.w) A (richCompare (opW w) (.ref a) (.ref b)) (fun v s' => v = OpB w r ∧ LoopI X pins σ H s') X.xe s := by
  have inv : LoopI X pins σ H s := ⟨H, I, Ext.rfl'⟩
  obtain ⟨us, ru, eu, _⟩ := I.tuple ha
  obtain ⟨vs, rv, ev, _⟩ := I.tuple hb
  obtain ⟨⟨c1, x1, y1, z1⟩, eu, rfl, k1, rfl⟩ := eu
  obtain ⟨⟨c2, x2, y2, z2⟩, ev, rfl, k2, rfl⟩ := ev
  have f := AutoSeq1.sub_tuple_tuple
  have first : Midst X pins σ H T r us.length vs.length (us.zip vs) s := ⟨xs, ys, us, vs, rfl, ru, rv, p, by omega, inv⟩
  have turn : ∀ (u v : Value) (rest : List (Value × Value)) (s' : Shared), Midst X pins σ H T r us.length vs.length ((u, v) :: rest) s' →
      wpAny (model X.prog X.w) A.in1 (eqBool u v) (fun q s2 => (q = true ∧ Midst X pins σ H T r us.length vs.length rest s2) ∨ (q = false ∧ r = false ∧ LoopI X pins σ H s2)) X.xe s' := by
    rintro u v rest s' ⟨ps, qs, us', vs', e, rp, rq, t, m, H1, I1, e1⟩
    cases us' with
    | nil => simp at e
    | cons u' us' =>
    cases vs' with
    | nil => simp at e
    | cons v' vs' =>
    simp only [List.zip_cons_cons, List.cons.injEq, Prod.mk.injEq] at e
    obtain ⟨⟨rfl, rfl⟩, rfl⟩ := e
    cases rp with
    | cons ra rp =>
    cases rq with
    | cons rb rq =>
    cases t with
    | on t t' =>
      refine wpAny_mono (hT true A.in1 pins σ H1 _ _ (mT true _ _ H H1 e1 t) s' u v ra rb I1 sb.in1) (fun q s2 z => ?_) fun _ _ z => z
      obtain ⟨rfl, H2, I2, e2⟩ := z
      exact .inl ⟨rfl, _, _, us', vs', rfl, rp, rq, t', by simp only [List.length_cons] at m; omega, H2, I2, e1.trans e2⟩
    | off t =>
      refine wpAny_mono (hT false A.in1 pins σ H1 _ _ (mT false _ _ H H1 e1 t) s' u v ra rb I1 sb.in1) (fun q s2 z => ?_) fun _ _ z => z
      obtain ⟨rfl, H2, I2, e2⟩ := z
      exact .inr ⟨rfl, rfl, H2, I2, e1.trans e2⟩
  have last : ∀ s', Midst X pins σ H T r us.length vs.length [] s' → (us.length == vs.length) = r ∧ LoopI X pins σ H s' := by
    rintro s' ⟨ps, qs, us', vs', e, rp, rq, t, m, inv'⟩
    refine ⟨?_, inv'⟩
    cases t with
    | done =>
      have := rp.length; have := rq.length
      simp at *; omega
    | short =>
      have := rp.length; have := rq.length
      simp at *; omega
    | long =>
      have := rp.length; have := rq.length
      simp at *; omega
    | on _ _ =>
      cases rp; cases rq; simp at e
    | off _ =>
      cases rp; cases rq; simp at e
  cases w
  · refine wpAny_richCompare_same_room (op := .NotEq) ⟨_, eu, rfl⟩ ⟨_, ev, rfl⟩ F.slot_tuple_ne (GQ.call_here F.slot_tuple_ne ⟨_, eu, rfl⟩ F.entry_tuple_ne (F.args_tuple_ne_2 _ _) ?_) sb.room.units0
    obtain ⟨hp, gl, dd, tk, os⟩ := s
    wp_walk using AutoSeq1.wpAny_loadPart' eu, AutoSeq1.wpAny_loadPart' ev, wpAny_forIn_list _ (fun rest st s' => st.1 = none ∧ Midst X pins σ H T r us.length vs.length rest s') _
    case turn =>
      rintro ⟨u, v⟩ rest st s' ⟨h1, h2⟩
      refine wpAny_bind (wpAny_mono (turn u v rest s' h2) (fun q s2 z => ?_) fun _ _ z => z)
      rcases z with ⟨rfl, z⟩ | ⟨rfl, rfl, z⟩
      · wp_walk
        exact ⟨rfl, z⟩
      · wp_walk
        exact ⟨(fun z => nomatch z), rfl, z⟩
    case fin =>
      rintro ⟨b1, b2⟩ s' ⟨h1, h2⟩
      simp only at h1
      subst h1
      obtain ⟨h3, h4⟩ := last s' h2
      wp_walk
      exact ⟨(fun z => nomatch z), by subst h3; simp [Builtin.Tuple.tupleCompareSizes, OpB, bne], h4⟩
    case h => exact ⟨rfl, first⟩
  · refine wpAny_richCompare_same_room (op := .Eq) ⟨_, eu, rfl⟩ ⟨_, ev, rfl⟩ F.slot_tuple_eq (GQ.call_here F.slot_tuple_eq ⟨_, eu, rfl⟩ F.entry_tuple_eq (F.args_tuple_eq_2 _ _) ?_) sb.room.units0
    obtain ⟨hp, gl, dd, tk, os⟩ := s
    wp_walk using AutoSeq1.wpAny_loadPart' eu, AutoSeq1.wpAny_loadPart' ev, wpAny_forIn_list _ (fun rest st s' => st.1 = none ∧ Midst X pins σ H T r us.length vs.length rest s') _
    case turn =>
      rintro ⟨u, v⟩ rest st s' ⟨h1, h2⟩
      refine wpAny_bind (wpAny_mono (turn u v rest s' h2) (fun q s2 z => ?_) fun _ _ z => z)
      rcases z with ⟨rfl, z⟩ | ⟨rfl, rfl, z⟩
      · wp_walk
        exact ⟨rfl, z⟩
      · wp_walk
        exact ⟨(fun z => nomatch z), rfl, z⟩
    case fin =>
      rintro ⟨b1, b2⟩ s' ⟨h1, h2⟩
      simp only at h1
      subst h1
      obtain ⟨h3, h4⟩ := last s' h2
      wp_walk
      exact ⟨(fun z => nomatch z), by subst h3; simp [Builtin.Tuple.tupleCompareSizes, OpB], h4⟩
    case h => exact ⟨rfl, first⟩
/-! the answers of two things, one step above those of their items -/
/-- what a rich comparison of two things answers -/
def AnsR (X : Cx) (n : Nat) (T : Tell) : Prop := ∀ (w r : Bool) (A : Around) (pins : List (Addr × Obj)) (σ : L2.St) (H : Hp) (x y : V), T r x y H → ∀ (s : Shared) (u v : Value), RelV x u → RelV y v → L2.Inv X pins σ H s → L2.Sub X n A →
  wpAny (model X.prog X.w) A (richCompare (opW w) u v) (fun q s' => q = OpB w r ∧ LoopI X pins σ H s') X.xe s
theorem AnsR.answers {T : Tell} (h : AnsR X n T) (hr : ∀ r x y H, T r x y H → ∃ a b, x = .ref a ∧ y = .ref b ∧ (a = b → r = true)) : Answers X n T := by
  intro r A pins σ H x y t s u v ru rv I sb
  obtain ⟨a, b, rfl, rfl, hab⟩ := hr _ _ _ _ t
  have ask := h true r A pins σ H _ _ t s u v ru rv I sb
  cases ru
  cases rv
  by_cases e : a = b
  · subst e
    rw [hab rfl]
    exact EqAt.same (A := A) (s := s) (.ref a) X.prog X.w X.xe _ ⟨rfl, H, I, Ext.rfl'⟩
  · exact GQ.eqBool_refG e (wpAny_mono ask (fun q s' z => ⟨r, z.1, rfl, z.2⟩) fun _ _ z => z)
theorem Answers.or {T T' : Tell} (h : Answers X n T) (h' : Answers X n T') : Answers X n fun r x y H => T r x y H ∨ T' r x y H := by
  intro r A pins σ H x y t
  rcases t with t | t
  · exact h r A pins σ H x y t
  · exact h' r A pins σ H x y t
theorem Answers.mono {T : Tell} {m : Nat} (h : Answers X n T) (hm : n ≤ m) : Answers X m T := fun r A pins σ H x y t s u v ru rv I sb => h r A pins σ H x y t s u v ru rv I (sb.mono hm)
theorem AnsR.mono {T : Tell} {m : Nat} (h : AnsR X n T) (hm : n ≤ m) : AnsR X m T := fun w r A pins σ H x y t s u v ru rv I sb => h w r A pins σ H x y t s u v ru rv I (sb.mono hm)
def TFlat : Tell := fun r x y _ => flatV x = true ∧ flatV y = true ∧ eqV x y = r
theorem answers_flat : Answers X n TFlat := by
  intro r A pins σ H x y t s u v ru rv I sb
  obtain ⟨f1, f2, rfl⟩ := t
  exact eqAt_V ru rv f1 f2 X.prog X.w X.xe _ ⟨rfl, H, I, Ext.rfl'⟩
def TList (K : PySem.W.Frag) (T : Tell) : Tell := fun r x y H => ∃ a b xs ys, x = .ref a ∧ y = .ref b ∧ SqL K H a xs ∧ SqL K H b ys ∧ Rows2 T H r xs ys
def TTup (K : PySem.W.Frag) (T : Tell) : Tell := fun r x y H => ∃ a b xs ys, x = .ref a ∧ y = .ref b ∧ SqT K H a xs ∧ SqT K H b ys ∧ RowT T H r xs ys
theorem ansR_list {T : Tell} (h : Answers X n T) (m : TMon T) : AnsR X (n + 1) (TList X.K T) := by
  intro w r A pins σ H x y t s u v ru rv I sb
  obtain ⟨a, b, xs, ys, rfl, rfl, ha, hb, p⟩ := t
  cases ru
  cases rv
  exact lists_ask w h m sb I ha hb p
theorem ansR_tup {T : Tell} (h : Answers X n T) (m : TMon T) : AnsR X (n + 1) (TTup X.K T) := by
  intro w r A pins σ H x y t s u v ru rv I sb
  obtain ⟨a, b, xs, ys, rfl, rfl, ha, hb, p⟩ := t
  cases ru
  cases rv
  exact tuples_ask w h m sb I ha hb p
/-- two things of one class with its own == -/
def TObj (C : Addr) (sp : Sp) (E : XK) : Tell := fun r x y H => ∃ a b dx dy fs gs, x = .ref a ∧ y = .ref b ∧ H a = some (.ins C dx fs) ∧ H b = some (.ins C dy gs) ∧ spB sp E x y H fun c H' => c = r ∧ Ext H H'
theorem ansR_obj {CX : CXT} {k : Nat} {C : Addr} {sp : Sp} {E : XK} (c : OwnE X.prog X.w X.K X.mg X.base CX k C sp) (hx : Passes CX X E) (hk : k + 1 ≤ n) : AnsR X n (TObj C sp E) := by
  intro w r A pins σ H x y t s u v ru rv I sb
  obtain ⟨f, fd, ps, F, hs, hf, hb, hs', hm, hn⟩ := c.ex
  obtain ⟨a, b, dx, dy, fs, gs, rfl, rfl, ha, hb', h⟩ := t
  cases ru
  cases rv
  obtain ⟨mA, J, _⟩ := ins_get I.hok ha
  obtain ⟨od, J, _⟩ := J.look
  obtain ⟨mB, J', _⟩ := ins_get I.hok hb'
  obtain ⟨od', J', _⟩ := J'.look
  have sb' : L2.Sub X (k + 1) A := sb.mono hk
  cases w
  · refine rc_ne (by have := sb.room.un; omega) I.kIn J J' hm hs hs' hf ?_
    exact wpAny_mono (run_own F hb hx sb'.in1.room sb'.in1.fr I (x := .ref a) (y := .ref b) rfl rfl h) (fun q s' ⟨c, e, H', I', z1, z2⟩ => ⟨c, e, by rw [z1]; rfl, H', I', z2⟩) fun _ _ q => q
  · obtain ⟨m, hF⟩ := I.fr
    have other : PySem.W.notFirst X.K C (.ref C) = true := by simp [PySem.W.notFirst]
    have rm := sb.room.units0
    refine PySem.W.cmp_K (op := .Eq) rm hF I.ok.mod.kin J J'.type other hs hf ?_
    exact wpAny_mono (run_own F hb hx (sb'.mono (Nat.le_succ k)).room sb'.fr I (x := .ref a) (y := .ref b) rfl rfl h) (fun q s' ⟨c, e, H', I', z1, z2⟩ => by subst e z1; exact ⟨rfl, H', I', z2⟩) fun _ _ q => q
end
end

section
mutual
def hgt : D → Nat
  | .tup xs => hgts xs + 1
  | .lst xs => hgts xs + 1
  | .obj _ xs => hgts xs + 1
  | _ => 0
def hgts : List D → Nat
  | [] => 0
  | x :: xs => max (hgt x) (hgts xs)
end
/- comparable: the classes that have an == of their own, each with so many fields -/
mutual
def okc (cs : List (Nat × Nat)) : D → Bool
  | .tup xs => okcs cs xs
  | .lst xs => okcs cs xs
  | .obj c xs => (cs.lookup c == some xs.length) && okcs cs xs
  | .dct _ _ => false
  | .dtt _ _ => false
  | _ => true
def okcs (cs : List (Nat × Nat)) : List D → Bool
  | [] => true
  | x :: xs => okc cs x && okcs cs xs
end
def isR : D → Bool
  | .tup _ => true | .lst _ => true | .obj _ _ => true | _ => false
/-- the same data of such a height -/
def TSam (kt : Kt) (cs : List (Nat × Nat)) (h : Nat) : Tell := fun r x y H => r = true ∧ ∃ d, okc cs d = true ∧ hgt d ≤ h ∧ DA kt H d x ∧ DA kt H d y
def TRef (kt : Kt) (cs : List (Nat × Nat)) (h : Nat) : Tell := fun r x y H => r = true ∧ ∃ d, okc cs d = true ∧ hgt d ≤ h ∧ isR d = true ∧ DA kt H d x ∧ DA kt H d y
variable {kt : Kt} {cs : List (Nat × Nat)} {h : Nat}
theorem TSam.mon : TMon (TSam kt cs h) := fun r x y H H' e ⟨q, d, o, l, a, b⟩ => ⟨q, d, o, l, a.mono e, b.mono e⟩
theorem rowT_of {H : Hp} : ∀ {xs : List D} {vs ws : List V}, okcs cs xs = true → hgts xs ≤ h → DAs kt H xs vs → DAs kt H xs ws → RowT (TSam kt cs h) H true vs ws
  | [], vs, ws, _, _, a, b => by rw [a.nil', b.nil']; exact .done
  | x :: xs, vs, ws, o, l, a, b => by
    obtain ⟨v, vs, rfl, a1, a2⟩ := a.cons'
    obtain ⟨w, ws, rfl, b1, b2⟩ := b.cons'
    unfold okcs at o
    unfold hgts at l
    rw [Bool.and_eq_true] at o
    exact .on ⟨rfl, x, o.1, by omega, a1, b1⟩ (rowT_of o.2 (by omega) a2 b2)
theorem row2_of {H : Hp} : ∀ {xs : List D} {vs ws : List V}, okcs cs xs = true → hgts xs ≤ h → DAs kt H xs vs → DAs kt H xs ws → Row2 (TSam kt cs h) H true vs ws
  | [], vs, ws, _, _, a, b => by rw [a.nil', b.nil']; exact .done
  | x :: xs, vs, ws, o, l, a, b => by
    obtain ⟨v, vs, rfl, a1, a2⟩ := a.cons'
    obtain ⟨w, ws, rfl, b1, b2⟩ := b.cons'
    unfold okcs at o
    unfold hgts at l
    rw [Bool.and_eq_true] at o
    exact .on ⟨rfl, x, o.1, by omega, a1, b1⟩ (row2_of o.2 (by omega) a2 b2)
theorem flat_of {d : D} {x : V} {H : Hp} (o : okc cs d = true) (n : isR d = false) (a : DA kt H d x) : flatV x = true ∧ eqV x x = true := by
  cases d <;> first | (simp [isR] at n; done) | (simp [okc] at o; done) | (unfold DA at a; subst a; simp [flatV, eqV])
theorem da_same {d : D} {x y : V} {H : Hp} (o : okc cs d = true) (n : isR d = false) (a : DA kt H d x) (b : DA kt H d y) : x = y := by
  cases d <;> first | (simp [isR] at n; done) | (simp [okc] at o; done) | (unfold DA at a b; rw [a, b])
theorem answers_sam {X : Cx} {n : Nat} (a : AnsR X n (TRef kt cs h)) : Answers X n (TSam kt cs h) := by
  have q : Answers X n (TRef kt cs h) := a.answers fun r x y H ⟨z, d, o, l, n, a, b⟩ => by
    cases d with
    | tup xs => obtain ⟨p, _, rfl, _⟩ := a.tup'; obtain ⟨p', _, rfl, _⟩ := b.tup'; exact ⟨p, p', rfl, rfl, fun _ => z⟩
    | lst xs => obtain ⟨p, _, rfl, _⟩ := a.lst'; obtain ⟨p', _, rfl, _⟩ := b.lst'; exact ⟨p, p', rfl, rfl, fun _ => z⟩
    | obj c xs => unfold DA at a b; obtain ⟨_, _, p, _, _, _, rfl, _⟩ := a; obtain ⟨_, _, p', _, _, _, rfl, _⟩ := b; exact ⟨p, p', rfl, rfl, fun _ => z⟩
    | _ => simp [isR] at n
  intro r A pins σ H x y t
  obtain ⟨z, d, o, l, a, b⟩ := t
  cases e : isR d with
  | true => exact q r A pins σ H x y ⟨z, d, o, l, e, a, b⟩
  | false =>
    obtain rfl := da_same o e a b
    obtain ⟨f1, f2⟩ := flat_of o e a
    exact answers_flat r A pins σ H x x ⟨f1, f1, by rw [f2, z]⟩
theorem spD_same {K : Kt} {m : List S → Rs S} {d : D} {ρ : En} {x y : V} {H : Hp} {E : XK} (e : m [.d d, .d d] = .ok (.d (.bl true)) ρ) (a : DA K H d x) (b : DA K H d y) : spB (spD K 2 m) E x y H fun c H' => c = true ∧ Ext H H' := by
  have no : ∀ i p, ¬ OwnI [some x, some y] [S.d d, S.d d] i p := fun i p z => by
    obtain ⟨_, s, z1, z2⟩ := z
    match i, z1 with
    | 0, z1 => cases z1; cases z2
    | 1, z1 => cases z1; cases z2
    | i + 2, z1 => simp at z1
  refine ⟨rfl, H, [.d d, .d d], ⟨Same.refl _, rfl, fun i s z => ?_, fun i j p z _ => (no i p z).elim⟩, ?_⟩
  · match i, z with
    | 0, z => cases z; exact ⟨x, rfl, a⟩
    | 1, z => cases z; exact ⟨y, rfl, b⟩
    | i + 2, z => simp at z
  · rw [e]
    intro F' H' st ea v ra
    obtain ⟨⟨w, e1, e2⟩, _⟩ := ra
    cases e1
    exact ⟨true, da_bl e2, rfl, fun p o z => st.keep p o z fun i q => no i p q⟩
/-- what holds at each height, wherever the program runs -/
def EqAll (P : Program) (w : World) (K : PySem.W.Frag) (mg : Str → Option Value) (base : Heap) (kt : Kt) (cs : List (Nat × Nat)) (n : Nat) : Prop :=
  ∀ X : Cx, X.prog = P → X.w = w → X.K = K → X.mg = mg → X.base = base → AnsR X (3 * n + 1) (TRef kt cs n)
section
variable {P : Program} {w : World} {K : PySem.W.Frag} {mg : Str → Option Value} {base : Heap} {me : Nat → Nat → List S → Rs S}
theorem eqAll (hK : kt.K = K)
    (own : ∀ c k, cs.lookup c = some k → ∀ n, EqAll P w K mg base kt cs n → ∃ nm fs, kt.ct[c]? = some (nm, fs) ∧ fs.length = k ∧ OwnE P w K mg base (L2.CX P w) (3 * n + 3) (He.ga K nm) (spD kt 2 (me c n)))
    (told : ∀ c k xs n, cs.lookup c = some k → xs.length = k → okcs cs xs = true → hgts xs ≤ n → ∃ ρ, me c n [.d (.obj c xs), .d (.obj c xs)] = .ok (.d (.bl true)) ρ) : ∀ n, EqAll P w K mg base kt cs n := by
  intro n
  induction n with
  | zero =>
    intro X h1 h2 h3 h4 h5 w r A pins σ H x y t
    obtain ⟨z, d, o, l, q, a, b⟩ := t
    cases d <;> first | (simp [isR] at q; done) | (simp [hgt] at l; done)
  | succ n ih =>
    intro X h1 h2 h3 h4 h5
    have A0 : Answers X (3 * n + 1) (TSam kt cs n) := answers_sam (ih X h1 h2 h3 h4 h5)
    subst h1 h2 h3 h4 h5
    have own' := fun c k hc => own c k hc n ih
    intro w r A pins σ H x y t s u v ru rv I sb
    obtain ⟨rfl, d, o, l, q, a, b⟩ := t
    have sb1 : L2.Sub X (3 * n + 1 + 1) A := sb.mono (by omega)
    cases d with
    | tup xs =>
      unfold okc at o
      unfold hgt at l
      obtain ⟨p, vs, rfl, p1, p2⟩ := a.tup'
      obtain ⟨p', ws, rfl, g1, g2⟩ := b.tup'
      rw [hK] at p1 g1
      exact ansR_tup A0 TSam.mon w true A pins σ H _ _ ⟨p, p', vs, ws, rfl, rfl, p1, g1, rowT_of o (by omega) p2 g2⟩ s u v ru rv I sb1
    | lst xs =>
      unfold okc at o
      unfold hgt at l
      obtain ⟨p, vs, rfl, p1, p2⟩ := a.lst'
      obtain ⟨p', ws, rfl, g1, g2⟩ := b.lst'
      rw [hK] at p1 g1
      exact ansR_list A0 TSam.mon w true A pins σ H _ _ ⟨p, p', vs, ws, rfl, rfl, p1, g1, .inl (row2_of o (by omega) p2 g2)⟩ s u v ru rv I sb1
    | obj c xs =>
      have o' := o
      unfold okc at o'
      unfold hgt at l
      rw [Bool.and_eq_true, beq_iff_eq] at o'
      obtain ⟨nm, fs, hc, lf, ow⟩ := own' c _ o'.1
      obtain ⟨ρ, e⟩ := told c _ xs n o'.1 rfl o'.2 (by omega)
      have sp := spD_same (E := E0) e a b
      unfold DA at a b
      obtain ⟨nm1, fs1, p, dx, vs, hc1, rfl, k1, _⟩ := a
      obtain ⟨nm2, fs2, p', dy, ws, hc2, rfl, k2, _⟩ := b
      rw [hc] at hc1 hc2
      cases hc1
      cases hc2
      rw [hK] at k1 k2
      exact ansR_obj (n := 3 * (n + 1) + 1) ow passL (by omega) w true A pins σ H _ _ ⟨p, p', dx, dy, _, _, rfl, rfl, k1, k2, sp⟩ s u v ru rv I sb
    | _ => simp [isR] at q
end
/-! the operators -/
def rEqS (kt : Kt) (cs : List (Nat × Nat)) (n : Nat) : R2 := fun x y H Q => rEqA kt.K x y H Q ∨ (TRef kt cs n true x y H ∧ ∀ H', Ext H H' → Q (.bl true) H')
def rNeS (kt : Kt) (cs : List (Nat × Nat)) (n : Nat) : R2 := fun x y H Q => rNeA kt.K x y H Q ∨ (TRef kt cs n true x y H ∧ ∀ H', Ext H H' → Q (.bl false) H')
theorem oEqS {X : Cx} {n j : Nat} (e : EqAll X.prog X.w X.K X.mg X.base kt cs n) (hr : Room j X.A) (hj : 3 * n + 1 ≤ j) (hK : X.K = kt.K := by rfl) : OpR X (compareOp .Eq) (rEqS kt cs n) := by
  intro pins s σ H x y v u Q I rx ry z
  rcases z with z | ⟨t, k⟩
  · exact oEq kt.K hr.units hK pins s σ H x y v u Q I rx ry z
  · exact PySem.W.cmp_ofEq (wpAny_mono (e X rfl rfl rfl rfl rfl true true X.A pins σ H x y t s v u rx ry I ⟨hr.mono hj, rfl⟩) (fun q s' ⟨z, H', I', ex⟩ => ⟨.bl true, H', I', by rw [z]; rfl, k H' ex⟩) fun _ _ z => z)
theorem oNeS {X : Cx} {n j : Nat} (e : EqAll X.prog X.w X.K X.mg X.base kt cs n) (hr : Room j X.A) (hj : 3 * n + 1 ≤ j) (hK : X.K = kt.K := by rfl) : OpR X (compareOp .NotEq) (rNeS kt cs n) := by
  intro pins s σ H x y v u Q I rx ry z
  rcases z with z | ⟨t, k⟩
  · exact oNe kt.K hr.units hK pins s σ H x y v u Q I rx ry z
  · exact PySem.W.cmp_ofNotEq (wpAny_mono (e X rfl rfl rfl rfl rfl false true X.A pins σ H x y t s v u rx ry I ⟨hr.mono hj, rfl⟩) (fun q s' ⟨z, H', I', ex⟩ => ⟨.bl false, H', I', by rw [z]; rfl, k H' ex⟩) fun _ _ z => z)
open Classical in
noncomputable def samB (cs : List (Nat × Nat)) (n : Nat) (x y : D) : Bool := decide (x = y) && (okc cs x && (decide (hgt x ≤ n) && isR x))
/-- the answer of an ==, where one is known -/
noncomputable def eqO (cs : List (Nat × Nat)) (n : Nat) (x y : D) : Option Bool := match deq x y with
  | some b => some b
  | none => if samB cs n x y = true then some true else none
noncomputable def eqSF (cs : List (Nat × Nat)) (n : Nat) (x y : D) : Option S := (eqO cs n x y).map sB
noncomputable def neSF (cs : List (Nat × Nat)) (n : Nat) (x y : D) : Option S := (eqO cs n x y).map fun b => sB (!b)
theorem samB_of {n : Nat} {x y : D} (e : samB cs n x y = true) : x = y ∧ okc cs x = true ∧ hgt x ≤ n ∧ isR x = true := by
  unfold samB at e
  simp only [Bool.and_eq_true, decide_eq_true_eq] at e
  exact e
mutual
theorem eqv_self : ∀ (x : D) (p : PyData), toPy x = some p → PyData.eqv p p = true
  | .non, _, e => by cases e; simp [PyData.eqv]
  | .bl _, _, e => by cases e; simp [PyData.eqv]
  | .int _, _, e => by cases e; simp [PyData.eqv]
  | .str _, _, e => by cases e; simp [PyData.eqv]
  | .tup xs, _, e => by
    obtain ⟨ps, e1, rfl⟩ := Option.map_eq_some_iff.mp e
    simp [PyData.eqv, eqvs_self xs ps e1]
  | .lst xs, _, e => by
    obtain ⟨ps, e1, rfl⟩ := Option.map_eq_some_iff.mp e
    simp [PyData.eqv, eqvs_self xs ps e1]
  | .dct _ _, _, e => by cases e
  | .dtt _ _, _, e => by cases e
  | .obj _ _, _, e => by cases e
theorem eqvs_self : ∀ (xs : List D) (ps : List PyData), toPys xs = some ps → PyData.eqvAll ps ps = true
  | [], _, e => by cases e; simp [PyData.eqvAll]
  | x :: xs, _, e => by
    obtain ⟨a, e1, e⟩ := Option.bind_eq_some_iff.mp e
    obtain ⟨as, e2, rfl⟩ := Option.map_eq_some_iff.mp e
    simp [PyData.eqvAll, eqv_self x a e1, eqvs_self xs as e2]
end
theorem deq_tt {x : D} {b : Bool} (e : deq x x = some b) : b = true := by
  have gen : ∀ y : D, ((toPy y).bind fun d => (toPy y).bind fun e => if SeqAt.shaped d = true ∧ SeqAt.shaped e = true then some (PyData.eqv d e) else none) = some b → b = true := fun y z => by
    obtain ⟨p, e1, z⟩ := Option.bind_eq_some_iff.mp z
    obtain ⟨q, e2, z⟩ := Option.bind_eq_some_iff.mp z
    rw [e1] at e2
    cases e2
    split at z
    · cases z; exact eqv_self y p e1
    · cases z
  cases x with
  | tup xs => exact gen (.tup xs) e
  | lst xs => exact gen (.lst xs) e
  | dct ks xs => exact gen (.dct ks xs) e
  | dtt ks xs => exact gen (.dtt ks xs) e
  | obj c xs => exact gen (.obj c xs) e
  | _ => simp [deq] at e; exact e
theorem eqO_self {n : Nat} {x : D} (o : okc cs x = true) (l : hgt x ≤ n) : eqO cs n x x = some true := by
  unfold eqO
  split
  · rename_i b e; rw [deq_tt e]
  · rename_i e
    cases q : isR x with
    | true => exact if_pos (by unfold samB; simp [o, l, q])
    | false => cases x <;> first | (simp [isR] at q; done) | (simp [okc] at o; done) | (simp [deq] at e)
theorem eqSF_self {n : Nat} {x : D} (o : okc cs x = true) (l : hgt x ≤ n) : eqSF cs n x x = some (sB true) := by unfold eqSF; rw [eqO_self o l]; rfl
theorem neSF_self {n : Nat} {x : D} (o : okc cs x = true) (l : hgt x ≤ n) : neSF cs n x x = some (sB false) := by unfold neSF; rw [eqO_self o l]; rfl
/-- where == of plain data tells, so does this one -/
theorem eqSF_of {n : Nat} {x y : D} {s : S} (e : eqF x y = some s) : eqSF cs n x y = some s := by
  unfold eqF at e
  obtain ⟨b, e1, rfl⟩ := Option.map_eq_some_iff.mp e
  unfold eqSF eqO
  rw [e1]; rfl
theorem neSF_of {n : Nat} {x y : D} {s : S} (e : neF x y = some s) : neSF cs n x y = some s := by
  unfold neF at e
  obtain ⟨b, e1, rfl⟩ := Option.map_eq_some_iff.mp e
  unfold neSF eqO
  rw [e1]; rfl
theorem pk_da {Z : Zt} {F H : Hp} (sm : Same F H) : ∀ {x : D} {v : V}, Pk Z.K F H x v → DA Z.K H x v
  | .tup xs, v, ⟨a, vs, e, h1, h2, _⟩ => e ▸ DA.tup h1 (h2.mono sm)
  | .lst xs, v, ⟨a, vs, e, h1, h2⟩ => e ▸ DA.lst h1 (h2.mono sm)
  | .dct ks xs, v, ⟨a, vs, e, h1, h0, h2⟩ => by unfold DA; exact ⟨a, vs, e, h1, h0, h2.mono sm⟩
  | .dtt ks xs, v, ⟨a, vs, e, h1, h0, h2⟩ => by unfold DA; exact ⟨a, vs, e, h1, h0, h2.mono sm⟩
  | .obj c xs, v, ⟨nm, fs, a, dx, vs, hc, e, h1, h0, h2⟩ => by unfold DA; exact ⟨nm, fs, a, dx, vs, hc, e, h1, h0, h2.mono sm⟩
  | .non, v, h => DA.mono sm _ _ h
  | .bl b, v, h => DA.mono sm _ _ h
  | .int b, v, h => DA.mono sm _ _ h
  | .str b, v, h => DA.mono sm _ _ h
theorem ok_eqS {Z : Zt} {n : Nat} (hk : Z.K = kt := by rfl) : Ok2 Z (rEqS kt cs n) (eqSF cs n) := fun F H x y v w s Q sm p q e k => by
  subst hk
  obtain ⟨b, e1, rfl⟩ := Option.map_eq_some_iff.mp e
  unfold eqO at e1
  split at e1
  · rename_i b' e2
    exact .inl (ok_eq F H x y v w _ Q sm p q (by unfold eqF; rw [e2]; rfl) (by cases e1; exact k))
  · split at e1
    · rename_i z
      cases e1
      obtain ⟨rfl, o, l, r⟩ := samB_of z
      exact .inr ⟨⟨rfl, x, o, l, r, pk_da sm p, pk_da sm q⟩, fun H' ex => k (.bl true) F H' ⟨Same.refl _, ex, sm.trans ex, fun _ z => .inl z⟩ ⟨_, rfl, DA.bl⟩ fun z => nomatch z⟩
    · cases e1
theorem ok_neS {Z : Zt} {n : Nat} (hk : Z.K = kt := by rfl) : Ok2 Z (rNeS kt cs n) (neSF cs n) := fun F H x y v w s Q sm p q e k => by
  subst hk
  obtain ⟨b, e1, rfl⟩ := Option.map_eq_some_iff.mp e
  unfold eqO at e1
  split at e1
  · rename_i b' e2
    exact .inl (ok_ne F H x y v w _ Q sm p q (by unfold neF; rw [e2]; rfl) (by cases e1; exact k))
  · split at e1
    · rename_i z
      cases e1
      obtain ⟨rfl, o, l, r⟩ := samB_of z
      exact .inr ⟨⟨rfl, x, o, l, r, pk_da sm p, pk_da sm q⟩, fun H' ex => k (.bl false) F H' ⟨Same.refl _, ex, sm.trans ex, fun _ z => .inl z⟩ ⟨_, rfl, DA.bl⟩ fun z => nomatch z⟩
    · cases e1
end

section
section
variable {Z : Zt} {W : WX} {X : Cx}
def zipD : List D → List D → List D
  | x :: xs, y :: ys => .tup [x, y] :: zipD xs ys
  | _, _ => []
theorem zipD_get : ∀ {xs ys : List D} {i : Nat} {x y : D}, xs[i]? = some x → ys[i]? = some y → (zipD xs ys)[i]? = some (.tup [x, y])
  | [], _, _, _, _, h, _ => by simp at h
  | _ :: _, [], _, _, _, _, h => by simp at h
  | _ :: _, _ :: _, 0, _, _, h, g => by simp at h g; subst h g; rfl
  | _ :: xs, _ :: ys, i + 1, _, _, h, g => by simp only [zipD, List.getElem?_cons_succ] at h g ⊢; exact zipD_get h g
theorem zipD_len : ∀ {xs ys : List D}, (zipD xs ys).length = min xs.length ys.length
  | [], _ => by simp [zipD]
  | _ :: _, [] => by simp [zipD]
  | _ :: xs, _ :: ys => by simp only [zipD, List.length_cons, zipD_len]; omega
theorem it_zipL {F : Hp} {a b : Addr} {vs ws : List V} {xs ys : List D} (h : SqL Z.K.K F a vs) (g : SqL Z.K.K F b ws) (d : DAs Z.K F xs vs) (e : DAs Z.K F ys ws) : ItD Z F (Itz Z.K.K a b) (zipD xs ys) where
  go := fun i H s hi => by
    rw [zipD_len] at hi
    have l1 : i < vs.length := by rw [d.length]; omega
    have l2 : i < ws.length := by rw [e.length]; omega
    exact ⟨vs, ws, vs[i], ws[i], s.seq h, s.seq g, List.getElem?_eq_getElem l1, List.getElem?_eq_getElem l2⟩
  yl := fun i x F1 H H' s1 s2 hi y => by
    obtain ⟨T, p, q, rfl, fr, rfl, k1, k2⟩ := y
    obtain ⟨z1, e1, d1⟩ := d.get (k1 vs ((s1.trans s2).seq h))
    obtain ⟨z2, e2, d2⟩ := e.get (k2 ws ((s1.trans s2).seq g))
    have up := same_new (o := HO.tup [p, q]) (s2.free fr)
    exact ⟨upd F1 T _, .tup [z1, z2], Al.add s2 fr _, zipD_get e1 e2, DA.tup (.inl (.inl upd_same)) (.cons ((d1.mono s1).mono up) (.cons ((d2.mono s1).mono up) .nil))⟩
  st := fun H s => ⟨vs, ws, s.seq h, s.seq g, by rw [zipD_len, d.length, e.length]; omega⟩
theorem it_zipT {F : Hp} {a b : Addr} {vs ws : List V} {xs ys : List D} (h : SqT Z.K.K F a vs) (g : SqT Z.K.K F b ws) (d : DAs Z.K F xs vs) (e : DAs Z.K F ys ws) : ItD Z F (RZ.ItzT Z.K.K a b) (zipD xs ys) where
  go := fun i H s hi => by
    rw [zipD_len] at hi
    have l1 : i < vs.length := by rw [d.length]; omega
    have l2 : i < ws.length := by rw [e.length]; omega
    exact ⟨vs, ws, vs[i], ws[i], same_t s h, same_t s g, List.getElem?_eq_getElem l1, List.getElem?_eq_getElem l2⟩
  yl := fun i x F1 H H' s1 s2 hi y => by
    obtain ⟨T, p, q, rfl, fr, rfl, k1, k2⟩ := y
    obtain ⟨z1, e1, d1⟩ := d.get (k1 vs (same_t (s1.trans s2) h))
    obtain ⟨z2, e2, d2⟩ := e.get (k2 ws (same_t (s1.trans s2) g))
    have up := same_new (o := HO.tup [p, q]) (s2.free fr)
    exact ⟨upd F1 T _, .tup [z1, z2], Al.add s2 fr _, zipD_get e1 e2, DA.tup (.inl (.inl upd_same)) (.cons ((d1.mono s1).mono up) (.cons ((d2.mono s1).mono up) .nil))⟩
  st := fun H s => ⟨vs, ws, same_t s h, same_t s g, by rw [zipD_len, d.length, e.length]; omega⟩
def zipO : List D → Option (List D)
  | [.lst xs, .lst ys] => some (zipD xs ys)
  | [.tup xs, .tup ys] => some (zipD xs ys)
  | _ => none
def zipG (m : En → Rs (List D)) : En → Rs (List D) := fun ρ => (m ρ).bind fun l ρ' => Rs.opt (zipO l) fun its => .ok its ρ'
/-- two arguments, neither with a star -/
abbrev TwoPlain (X : Cx) (e e2 : Expr) (pos : Pos) : Prop :=
  starEach [e, e2] X.env = (false, eval e X.env) :: starEach [e2] X.env ∧
  (backTo pos (starEach [e2] X.env)).any (·.1) = false
theorem i_zip {e e2 : Expr} {m : En → Rs (List D)} {p pos tpos : Pos} {elts : List Expr} {kk : Nat} (hg : Gl X "zip") (hm : X.mg "zip" = none) (ha : DL X Z W [e, e2] m) (hk : X.K = Z.K.K := by rfl)
    (st : TwoPlain X e e2 pos := by exact ⟨rfl, rfl⟩) : DI X Z W (.Tuple elts kk tpos) (.Call (.Name "zip" p) [e, e2] [] pos) (zipG m) := ⟨pi_imp (RZ.pi_zipA hg hm ha.pa st.1 st.2) fun σ H R ⟨F, ρ, ea, q⟩ => by
  refine ⟨F, ρ, ea, q.bind.mono fun l ρ' F' H' st e' q vs hv => ?_⟩
  obtain ⟨its, z, q⟩ := q.opt
  rw [hk]
  unfold zipO at z
  split at z
  · cases z
    obtain ⟨v, r, rfl, h1, h2⟩ := hv.cons'
    obtain ⟨w, r, rfl, g1, g2⟩ := h2.cons'
    obtain rfl := g2.nil'
    obtain ⟨a, us, rfl, a1, a2⟩ := h1.lst'
    obtain ⟨b, ws, rfl, b1, b2⟩ := g1.lst'
    exact ⟨a, b, us, ws, rfl, .inl ⟨e'.sub.seq a1, e'.sub.seq b1, q.here e' _ (it_zipL a1 b1 a2 b2)⟩⟩
  · cases z
    obtain ⟨v, r, rfl, h1, h2⟩ := hv.cons'
    obtain ⟨w, r, rfl, g1, g2⟩ := h2.cons'
    obtain rfl := g2.nil'
    obtain ⟨a, us, rfl, a1, a2⟩ := h1.tup'
    obtain ⟨b, ws, rfl, b1, b2⟩ := g1.tup'
    exact ⟨a, b, us, ws, rfl, .inr ⟨same_t e'.sub a1, same_t e'.sub b1, q.here e' _ (it_zipT a1 b1 a2 b2)⟩⟩
  · cases z⟩
/-! d.get(k, z) -/
def dgetG (mo mk md : En → Rs D) : En → Rs D := fun ρ => (mo ρ).bind fun x ρ1 => match x with
  | .dct ks xs => (mk ρ1).bind fun k ρ2 => (md ρ2).bind fun z ρ3 => Rs.opt (keyOf k) fun k' => .ok ((getM ks xs k').getD z) ρ3
  | _ => .stuck
theorem d_dget2 {o e f : Expr} {apos cpos : Pos} {mo mk md : En → Rs D} (hu : X.A.units + 1 < cLine) (ho : DE X Z W o mo) (he : DE X Z W e mk) (hf : DE X Z W f md) (hm : M2 X o "get" apos e f cpos) : DE X Z W (.Call (.Attribute o "get" apos) [e, f] [] cpos) (dgetG mo mk md) := ⟨pe_imp (pe_dget2 hu ho.pe he.pe hf.pe hm) fun σ H Q ⟨F, ρ, ea, q⟩ => by
  refine ⟨F, ρ, ea, q.bind.mono fun x ρ1 F1 H1 st1 e1 q v hv => ?_⟩
  split at q
  · rename_i ks xs
    unfold DA at hv
    obtain ⟨a, vs, rfl, ha, l, hd⟩ := hv
    refine ⟨a, rfl, .inl ⟨_, .inl (e1.sub _ _ ha)⟩, F1, ρ1, e1, q.bind.mono fun k ρ2 F2 H2 st2 e2 q w hw => ⟨F2, ρ2, e2, q.bind.mono fun z ρ3 F3 H3 st3 e3 q u hz => ?_⟩⟩
    obtain ⟨k', ek, q⟩ := q.opt
    have s13 := st2.same.trans st3.same
    refine ⟨_, .inl ⟨_, k', .inl (e3.sub _ _ (s13 _ _ ha)), kV_of ek hw, rfl⟩, q.here e3 _ ?_⟩
    have g := get_zip (k := k') (ks := ks) hd
    split at g
    · rename_i y ey
      obtain ⟨t, g1, g2⟩ := g
      rw [ey, g1]
      exact g2.mono s13
    · rename_i ey
      rw [ey, g]
      exact hz
  · exact q.elim⟩
end
end

section
open Classical in
noncomputable def askO (k : Nat) (xs : List D) (r : En → Rs (List D)) : En → Rs (List D) := fun ρ => if ρ[k]? = some (.L xs) then r ρ else .stuck
/-- the slot k holds the list xs at each turn -/
noncomputable def lc2Lb (k : Nat) (xs : List D) (t : Tg) (vs : List Nat) (m2 : En → Rs (List D)) (t2 : Tg) (vs1 : List Nat) (e : En → Rs D) : List D → List D → En → Rs (List D)
  | [], acc => fun ρ => .ok acc ρ
  | x :: its, acc => fun ρ => Rs.opt (t.put x ρ) fun ρ1 => (m2 ρ1).cb fun its2 ρ2 => if acc.length + its2.length ≤ 100000 then (lcL t2 vs1 tru e its2 acc (wipeE ρ2 vs1)).cb fun acc' ρ3 => askO k xs (lc2Lb k xs t vs m2 t2 vs1 e its acc') (wipeE ρ3 vs) else .stuck
noncomputable def lc2Lo (k : Nat) (xs : List D) (t : Tg) (vs : List Nat) (m2 : En → Rs (List D)) (t2 : Tg) (vs1 : List Nat) (e : En → Rs D) (its acc : List D) : En → Rs (List D) := askO k xs (lc2Lb k xs t vs m2 t2 vs1 e its acc)
noncomputable def lc2Go (k : Nat) (t : Tg) (vs : List Nat) (m2 : En → Rs (List D)) (t2 : Tg) (vs1 : List Nat) (e : En → Rs D) : En → Rs S := fun ρ => match ρ[k]? with
  | some (.L xs) => (lc2Lo k xs t vs m2 t2 vs1 e xs [] (wipeE ρ vs)).cb fun ys ρ2 => .ok (.L ys) (resE ρ ρ2 vs)
  | _ => lc2G (itD (rd k)) t vs m2 t2 vs1 e ρ
section
variable {Z : Zt} {W : WX} {X : Cx} {F H F1 H1 F' H' : Hp} {σ σ' σ1 : L2.St} {ρ ρ' ρ1 : En}
theorem lc2Lo_slot {k : Nat} {xs : List D} {t : Tg} {vs : List Nat} {m2 : En → Rs (List D)} {t2 : Tg} {vs1 : List Nat} {e : En → Rs D} {its acc ys : List D} {ρe : En} (h : lc2Lo k xs t vs m2 t2 vs1 e its acc ρ = .ok ys ρe) :
    ρ[k]? = some (.L xs) ∧ lc2Lb k xs t vs m2 t2 vs1 e its acc ρ = .ok ys ρe := by
  unfold lc2Lo askO at h
  split at h
  · rename_i q; exact ⟨q, h⟩
  · cases h
/-- the list as it stands now -/
theorem slot_at {k : Nat} {xs : List D} {vs : List Nat} {a : Addr} (hk : k ∉ vs) (e : EA Z F H (wipe σ vs) ρ) (hs : ρ[k]? = some (.L xs)) (ha : σ[k]?.join = some (.ref a)) : True ∧ ∃ us, H a = some (.lst us) ∧ DAs Z.K F xs us := by
  obtain ⟨a', us, h1, h2, h3, h4⟩ := e.sl k _ hs
  rw [wipe_get, if_neg hk, ha] at h1
  cases h1
  exact ⟨trivial, us, h3, h4⟩
def iOw (Z : Zt) (W : WX) (k : Nat) : TI := fun σ H R => dI Z W (itD (rd k)) σ H R ∨ iA Z.K.K (tVar k) σ H R
theorem pi_ow {tg e : Expr} {k : Nat} (h : PE X e (tVar k)) (hk : X.K = Z.K.K := by rfl) : PI X tg e (iOw Z W k) := pi_orr (i_it (d_rd h) hk).pi (oIt Z.K.K h hk)
theorem lc2o_go {k : Nat} {xs : List D} {a : Addr} {Q : VK} {g : TG} {t : Tg} {vs : List Nat} {m2 : En → Rs (List D)} {g2 : TG} {t2 : Tg} {vs1 : List Nat} {e : En → Rs D} (hk : k ∉ vs) (ht : GOk Z g t) (hv : ∀ i ∈ t.sl, i ∈ vs) (hb : ∀ i ∈ vs, i ∉ Z.bp) (ht2 : GOk Z g2 t2) (hv2 : ∀ i ∈ t2.sl, i ∈ vs1) (h12 : ∀ i ∈ vs1, i ∈ vs)
    (e1 : EA Z F1 H1 σ ρ1) (ha : σ[k]?.join = some (.ref a)) (q : Sat Z W F1 H1 σ ρ1 ((lc2Lo k xs t vs m2 t2 vs1 e xs [] (wipeE ρ1 vs)).cb fun ys ρ2 => .ok (.L ys) (resE ρ1 ρ2 vs)) (fun s ρ' F' H' => ∀ v, RA Z H1 σ ρ1 F' H' ρ' v s → Q v H')) :
    Lc2W (Itl Z.K.K a) g (dI Z W0 m2) g2 (dE Z W0 e) vs vs1 σ H1 Q := by
  intro B hB
  have st1 : Stp Z F1 H1 σ ρ1 F1 H1 σ ρ1 := Stp.refl
  obtain ⟨its, hits⟩ : ∃ its, its = xs := ⟨_, rfl⟩
  rw [show lc2Lo k xs t vs m2 t2 vs1 e xs [] (wipeE ρ1 vs) = lc2Lo k xs t vs m2 t2 vs1 e its [] (wipeE ρ1 vs) by rw [hits]] at q
  subst hits
  have hb1 : ∀ i ∈ vs1, i ∉ Z.bp := fun i hi => hb i (h12 i hi)
  have lay : Al F1 H1 F1 (upd H1 B (.lst [])) := Al.lay e1.sub hB _
  have e2 := e1.al lay
  generalize hr : lc2Lo k its t vs m2 t2 vs1 e its [] (wipeE ρ1 vs) = r at q
  cases r with
  | stuck => exact q.elim
  | exc => exact q.elim
  | ok ys ρe =>
    rw [Rs.cb_ok] at q
    have n0 : ∀ i, ¬ OwnI (wipe σ vs) (wipeE ρ1 vs) i B := fun i z => by
      obtain ⟨_, u, hu⟩ := e1.ownF (wipe_own z).2
      rw [hB] at hu; cases hu
    refine ⟨fun i n H' => n = its.length - i ∧ i ≤ its.length ∧ LcI Z F1 H1 (wipe σ vs) (wipeE ρ1 vs) B (lc2Lo k its t vs m2 t2 vs1 e (its.drop i)) ys ρe 100000 H', ⟨its.length, rfl, Nat.zero_le _, F1, wipeE ρ1 vs, [], [], wipe_ea e2, lay.stp, e1.sub.free hB, upd_same, DAs.nil, n0, Nat.zero_le _, hr⟩, ?_⟩
    rintro i n H2 ⟨rfl, hi, F2, ρ2, acc, vacc, e3, s3, fd, hd, da, nd, hl, hr2⟩
    obtain ⟨hs, hr2⟩ := lc2Lo_slot hr2
    obtain ⟨hq, vs2, hH2, hd2⟩ := slot_at hk e3 hs ha
    by_cases hlt : i < its.length
    · refine .inr ⟨⟨vs2, vs2[i]'(by rw [hd2.length]; exact hlt), .inl (.inl hH2), List.getElem?_eq_getElem _⟩, fun H' => i + 1 ≤ its.length ∧ LcI Z F1 H1 (wipe σ vs) (wipeE ρ1 vs) B (lc2Lo k its t vs m2 t2 vs1 e (its.drop (i + 1))) ys ρe 100000 H', fun H' z => ⟨its.length - (i + 1), by omega, rfl, z⟩, fun x H3 yl => ?_⟩
      obtain ⟨F3, d, al, ed, hx⟩ : ∃ F3 d, Al F2 H2 F3 H3 ∧ its[i]? = some d ∧ DA Z.K F3 d x := by
        obtain ⟨eH, h2⟩ := yl
        subst eH
        obtain ⟨d, ed, hx⟩ := hd2.get (h2 vs2 (.inl (.inl hH2)))
        exact ⟨F2, d, Al.refl e3.sub, ed, hx⟩
      have dr : its.drop i = d :: its.drop (i + 1) := by
        rw [List.drop_eq_getElem_cons hlt]
        have := List.getElem?_eq_getElem hlt
        rw [ed] at this
        rw [Option.some.inj this]
      rw [dr] at hr2
      simp only [lc2Lb] at hr2
      obtain ⟨ρ3, ep, hr2⟩ := Rs.opt_of hr2
      obtain ⟨its2, ρ4, hm2, hr2⟩ := Rs.cb_of hr2
      have sa : Stp Z F2 H2 (wipe σ vs) ρ2 F3 H3 (wipe σ vs) ρ2 := al.stp
      refine ht F3 H3 (wipe σ vs) ρ2 d x ρ3 _ (e3.al al) hx ep fun σ3 st3 e4 oth => ?_
      have w3 := oth_wipe oth hv
      refine ⟨w3, ?_⟩
      refine tyes_to ?_
      refine ⟨F3, ρ3, e4, ?_⟩
      rw [hm2]
      intro F4 H4 s4 e5 J1 IT1
      split at hr2
      · rename_i hsz
        obtain ⟨acc', ρ5, hin, hr2⟩ := Rs.cb_of hr2
        have sb : Stp Z F2 H2 (wipe σ vs) ρ2 F4 H4 σ3 ρ4 := (sa.trans st3).trans s4
        -- the inner walk: from the outer's moment on
        have sc := sb.trans (wE_stp (σ := σ3) rfl hb1)
        obtain ⟨k1, k2, k3⟩ := keepD sc fd hd nd
        refine ⟨fun j kk H' => kk = its2.length - j ∧ j ≤ its2.length ∧ Same F4 H' ∧ ∃ F ρ acc0 vacc0, EA Z F H' (wipe σ3 vs1) ρ ∧ Same F4 F ∧ Stp Z F1 H1 (wipe σ vs) (wipeE ρ1 vs) F H' (wipe σ3 vs1) ρ ∧ F B = none ∧ H' B = some (.lst vacc0) ∧ DAs Z.K F acc0 vacc0 ∧ (∀ i, ¬ OwnI (wipe σ3 vs1) ρ i B) ∧ vacc0.length ≤ acc.length + j ∧ lcL t2 vs1 tru e (its2.drop j) acc0 ρ = .ok acc' ρ5,
          ⟨its2.length, rfl, Nat.zero_le _, e5.sub, F4, _, acc, vacc, turn_ea e5 rfl, Same.refl _, s3.trans sc, k1, k2, da.mono sc.same, k3, by rw [da.length]; exact Nat.le_refl _, hin⟩, ?_⟩
        rintro j kk H5 ⟨rfl, hj, s45, F5, ρ6, acc0, vacc0, e6, s5, s15, fd5, hd5, da5, nd5, hl5, hr5⟩
        by_cases hlt2 : j < its2.length
        · refine .inr ⟨IT1.go j H5 (s5.trans e6.sub) hlt2, fun H' => j + 1 ≤ its2.length ∧ Same F4 H' ∧ ∃ F ρ acc0 vacc0, EA Z F H' (wipe σ3 vs1) ρ ∧ Same F4 F ∧ Stp Z F1 H1 (wipe σ vs) (wipeE ρ1 vs) F H' (wipe σ3 vs1) ρ ∧ F B = none ∧ H' B = some (.lst vacc0) ∧ DAs Z.K F acc0 vacc0 ∧ (∀ i, ¬ OwnI (wipe σ3 vs1) ρ i B) ∧ vacc0.length ≤ acc.length + (j + 1) ∧ lcL t2 vs1 tru e (its2.drop (j + 1)) acc0 ρ = .ok acc' ρ5, fun H' z => ⟨its2.length - (j + 1), by omega, rfl, z⟩, fun y H6 yl2 => ?_⟩
          obtain ⟨F6, d2, al2, ed2, hy⟩ := IT1.yl j y F5 H5 H6 s5 e6.sub hlt2 yl2
          have dr2 : its2.drop j = d2 :: its2.drop (j + 1) := by
            rw [List.drop_eq_getElem_cons hlt2]
            have := List.getElem?_eq_getElem hlt2
            rw [ed2] at this
            rw [Option.some.inj this]
          rw [dr2] at hr5
          simp only [lcL, tru, Rs.cb_ok, if_true] at hr5
          obtain ⟨ρ7, ep2, hr5⟩ := Rs.opt_of hr5
          obtain ⟨z, ρ8, hez, hr5⟩ := Rs.cb_of hr5
          have sd : Stp Z F5 H5 (wipe σ3 vs1) ρ6 F6 H6 (wipe σ3 vs1) ρ6 := al2.stp
          refine ht2 F6 H6 (wipe σ3 vs1) ρ6 d2 y ρ7 _ (e6.al al2) hy ep2 fun σ4 st4 e7 oth2 => ?_
          have w4 := oth_wipe oth2 hv2
          refine ⟨w4, ?_⟩
          refine tyes_to ?_
          refine ⟨F6, ρ7, e7, ?_⟩
          rw [hez]
          intro F7 H7 s7 e8 v hvy
          have se := ((sd.trans st4).trans s7).trans (wE_stp w4 hb1)
          obtain ⟨l1, l2, l3⟩ := keepD se fd5 hd5 nd5
          have sf := s15.trans se
          have s47 : Same F4 F7 := (s5.trans se.same)
          refine ⟨vacc0, l2, line_lt (by omega), hlt2, ?_, F7, _, acc0 ++ [z], vacc0 ++ [v], growD (turn_ea e8 w4) l1 l2 l3, s47, ?_, l1, upd_same, (da5.mono se.same).append (.cons hvy .nil), l3, by rw [List.length_append]; simp; omega, hr5⟩
          · exact s47.trans (growD (turn_ea e8 w4) l1 l2 l3 (o := .lst (vacc0 ++ [v]))).sub
          · refine ⟨sf.same, sf.new, fun b o h n => ?_, sf.own, sf.par, sf.len⟩
            rw [upd_ne fun z => by rw [z, hB] at h; cases h]; exact sf.keep b o h n
        · have ej : j = its2.length := by omega
          subst ej
          rw [List.drop_length] at hr5
          cases hr5
          refine .inl ⟨IT1.st H5 (s5.trans e6.sub), hlt, ?_⟩
          have ww : wipe (wipe σ3 vs1) vs = wipe σ vs := (wipe_wipe h12).trans w3
          have sg := s15.trans (wE_stp ww hb)
          have nB : ∀ i, ¬ OwnI (wipe σ vs) (wipeE ρ5 vs) i B := fun i z => by
            rw [← ww] at z
            exact nd5 i (wipe_own z).2
          exact ⟨F5, _, acc', vacc0, turn_ea e6 ww, sg, fd5, hd5, da5, nB, by omega, hr2⟩
      · cases hr2
    · have ei : i = its.length := by omega
      subst ei
      rw [List.drop_length] at hr2
      simp only [lc2Lb] at hr2
      cases hr2
      exact .inl ⟨⟨vs2, .inl (.inl hH2), by rw [hd2.length]; exact Nat.le_refl _⟩, lc_end st1 e1 hB q fd hd da nd s3 e3⟩
theorem lc2o_in {k : Nat} {g : TG} {t : Tg} {vs : List Nat} {m2 : En → Rs (List D)} {g2 : TG} {t2 : Tg} {vs1 : List Nat} {e : En → Rs D} (hk : k ∉ vs) (ht : GOk Z g t) (hv : ∀ i ∈ t.sl, i ∈ vs) (hb : ∀ i ∈ vs, i ∉ Z.bp) (ht2 : GOk Z g2 t2) (hv2 : ∀ i ∈ t2.sl, i ∈ vs1) (h12 : ∀ i ∈ vs1, i ∈ vs) :
    ∀ σ H Q, dF Z W (lc2Go k t vs m2 t2 vs1 e) σ H Q → tLc2 (iOw Z W k) g tYes (dI Z W0 m2) g2 tYes (dE Z W0 e) vs vs1 σ H Q := fun σ H Q ⟨F, ρ, ea, q⟩ => by
  by_cases hc : ∃ xs, ρ[k]? = some (.L xs)
  · obtain ⟨xs, h0⟩ := hc
    obtain ⟨a, us, ha, _, hH, hd0⟩ := ea.sl k _ h0
    have q : Sat Z W F H σ ρ ((lc2Lo k xs t vs m2 t2 vs1 e xs [] (wipeE ρ vs)).cb fun ys ρ2 => .ok (.L ys) (resE ρ ρ2 vs)) (fun s ρ' F' H' => ∀ v, RA Z H σ ρ F' H' ρ' v s → Q v H') := by
      have : lc2Go k t vs m2 t2 vs1 e ρ = (lc2Lo k xs t vs m2 t2 vs1 e xs [] (wipeE ρ vs)).cb fun ys ρ2 => .ok (.L ys) (resE ρ ρ2 vs) := by unfold lc2Go; rw [h0]
      rwa [this] at q
    refine s_lc2 (.inr (.inl ⟨.ref a, join_some ha, a, rfl, ⟨us, .inl (.inl hH)⟩, ?_⟩))
    exact lc2o_go hk ht hv hb ht2 hv2 h12 ea ha q
  · have q : dF Z W (lc2G (itD (rd k)) t vs m2 t2 vs1 e) σ H Q := ⟨F, ρ, ea, by
      have : lc2Go k t vs m2 t2 vs1 e ρ = lc2G (itD (rd k)) t vs m2 t2 vs1 e ρ := by
        unfold lc2Go
        split
        · rename_i xs h; exact absurd ⟨xs, h⟩ hc
        · rfl
      rwa [this] at q⟩
    exact .inl (lc2_in ht hv hb ht2 hv2 h12 σ H Q q)
theorem d_lc2o {elt tg iter tg2 iter2 : Expr} {scope : Scope} {own : List (Str × Nat)} {vs1 : List Nat} {pos : Pos} {k : Nat} {m2 : En → Rs (List D)} {g g2 : TG} {t t2 : Tg} {e : En → Rs D} (hk : k ∉ own.map (·.2)) (ht : GOk Z g t) (hv : ∀ i ∈ t.sl, i ∈ own.map (·.2)) (hb : ∀ i ∈ own.map (·.2), i ∉ Z.bp) (ht2 : GOk Z g2 t2) (hv2 : ∀ i ∈ t2.sl, i ∈ vs1) (h12 : ∀ i ∈ vs1, i ∈ own.map (·.2))
    (h : PE X (.ListComp elt [⟨tg, iter, [], 0⟩, ⟨tg2, iter2, [], 0⟩] scope pos) (tLc2 (iOw Z W k) g tYes (dI Z W0 m2) g2 tYes (dE Z W0 e) (own.map (·.2)) vs1)) : DF X Z W (.ListComp elt [⟨tg, iter, [], 0⟩, ⟨tg2, iter2, [], 0⟩] scope pos) (lc2Go k t (own.map (·.2)) m2 t2 vs1 e) := ⟨pe_imp h (lc2o_in hk ht hv hb ht2 hv2 h12)⟩
end
theorem lc2Lo_map {k : Nat} {xs : List D} {t : Tg} {vs : List Nat} {m2 : En → Rs (List D)} {t2 : Tg} {vs1 : List Nat} {e : En → Rs D} (f : D → List D) {ρw : En} (hw : ρw[k]? = some (.L xs)) : ∀ (its acc : List D), acc.length + (its.map f).flatten.length ≤ 100000 →
    (∀ x ∈ its, ∃ ρ1 ρ2 ρ3 its2, t.put x ρw = some ρ1 ∧ m2 ρ1 = .ok its2 ρ2 ∧ its2.length = (f x).length ∧ (∀ acc, lcL t2 vs1 tru e its2 acc (wipeE ρ2 vs1) = .ok (acc ++ f x) ρ3) ∧ wipeE ρ3 vs = ρw) → lc2Lo k xs t vs m2 t2 vs1 e its acc ρw = .ok (acc ++ (its.map f).flatten) ρw
  | [], acc, _, _ => by unfold lc2Lo askO; rw [if_pos hw]; simp [lc2Lb]
  | x :: its, acc, hl, h => by
    obtain ⟨ρ1, ρ2, ρ3, its2, e1, e2, e3, e4, e5⟩ := h x List.mem_cons_self
    rw [List.map_cons, List.flatten_cons, List.length_append] at hl
    have more := lc2Lo_map f hw its (acc ++ f x) (by rw [List.length_append]; omega) fun y hy => h y (List.mem_cons_of_mem _ hy)
    unfold lc2Lo askO
    rw [if_pos hw]
    unfold lc2Lb
    rw [e1]
    simp only [Rs.opt_some, e2, Rs.cb_ok]
    rw [if_pos (by omega), e4]
    simp only [Rs.cb_ok, e5]
    refine more.trans ?_
    simp
theorem lc2Go_L {k : Nat} {xs : List D} {t : Tg} {vs : List Nat} {m2 : En → Rs (List D)} {t2 : Tg} {vs1 : List Nat} {e : En → Rs D} {ρ : En} (f : D → List D) (h0 : ρ[k]? = some (.L xs)) (hw : (wipeE ρ vs)[k]? = some (.L xs)) (hl : (xs.map f).flatten.length ≤ 100000)
    (h : ∀ x ∈ xs, ∃ ρ2 ρ3 ρ4 its2, t.put x (wipeE ρ vs) = some ρ2 ∧ m2 ρ2 = .ok its2 ρ3 ∧ its2.length = (f x).length ∧ (∀ acc, lcL t2 vs1 tru e its2 acc (wipeE ρ3 vs1) = .ok (acc ++ f x) ρ4) ∧ wipeE ρ4 vs = wipeE ρ vs) :
    lc2Go k t vs m2 t2 vs1 e ρ = .ok (.L (xs.map f).flatten) (resE ρ (wipeE ρ vs) vs) := by
  unfold lc2Go
  rw [h0]
  simp only []
  rw [lc2Lo_map f hw xs [] (by simpa using hl) h]
  rfl
theorem lc2Go_d {k : Nat} {x : D} {t : Tg} {vs : List Nat} {m2 : En → Rs (List D)} {t2 : Tg} {vs1 : List Nat} {e : En → Rs D} {ρ : En} (h0 : ρ[k]? = some (.d x)) : lc2Go k t vs m2 t2 vs1 e ρ = lc2G (itD (rd k)) t vs m2 t2 vs1 e ρ := by
  unfold lc2Go
  rw [h0]
end

section
section
variable {Z : Zt} {W : WX} {X : Cx} {F H : Hp} {Q : VK}
def rDictP (K : PySem.W.Frag) : List V → Hp → VK → Prop := fun xs H Q => ∃ (a : Addr) (ps : List Addr) (kvs : List (Key × V)), xs = [.ref a] ∧ SqL K H a (ps.map V.ref) ∧ Paired (fun p kv => SqT K H p [kV kv.1, kv.2]) ps kvs ∧
  ∀ p, H p = none → Q (.ref p) (upd H p (.dK (mergeK [] kvs)))
theorem oDictP (K : PySem.W.Frag) (hc : X.calm = true := by rfl) (h : X.K = K := by rfl) : CallR X (.type "dict") (rDictP K) := h ▸ call_dictP hc
def prsK : List D → Option (List (Key × D))
  | [] => some []
  | .tup [k, v] :: r => (keyOf k).bind fun k' => (prsK r).map fun ps => (k', v) :: ps
  | _ => none
def mrg : List Key → List D → List (Key × D) → List Key × List D
  | ks, xs, [] => (ks, xs)
  | ks, xs, kx :: r => mrg (putM ks xs kx.1 kx.2).1 (putM ks xs kx.1 kx.2).2 r
def dictPF : List D → Option S
  | [.lst ps] => (prsK ps).map fun kv => .M (mrg [] [] kv).1 (mrg [] [] kv).2
  | _ => none
theorem Po.M {ks : List Key} {xs : List D} {vs : List V} (p : Po Z F H Q (.M ks xs)) (s : Same F H) (l : ks.length = xs.length) (h : DAs Z.K F xs vs) (a : Addr) (n : H a = none) : Q (.ref a) (upd H a (.dK (ks.zip vs))) :=
  p _ _ _ (Al.lay s n _) ⟨a, vs, rfl, s.free n, upd_same, l, h⟩ fun _ q hq => by cases hq; exact n
theorem prs_v {K : Kt} (sm : Same F H) : ∀ {ps : List D} {vs : List V} {kv : List (Key × D)}, prsK ps = some kv → DAs K F ps vs → ∃ (as : List Addr) (kvs : List (Key × V)), vs = as.map V.ref ∧ Paired (fun p kv => SqT K.K H p [kV kv.1, kv.2]) as kvs ∧ kvs.map (·.1) = kv.map (·.1) ∧ DAs K F (kv.map (·.2)) (kvs.map (·.2))
  | [], vs, kv, e, h => by
    cases e
    exact ⟨[], [], h.nil', .nil, rfl, .nil⟩
  | x :: ps, vs, kv, e, h => by
    obtain ⟨v, r, rfl, h1, h2⟩ := h.cons'
    unfold prsK at e
    split at e
    · cases ‹_ :: _ = []›
    · rename_i k y r' heq
      cases heq
      obtain ⟨k', ek, e⟩ := Option.bind_eq_some_iff.mp e
      obtain ⟨kv', e', rfl⟩ := Option.map_eq_some_iff.mp e
      obtain ⟨as, kvs, rfl, q1, q2, q3⟩ := prs_v sm e' h2
      obtain ⟨a, ws, rfl, g1, g2⟩ := h1.tup'
      obtain ⟨w1, r1, rfl, d1, g3⟩ := g2.cons'
      obtain ⟨w2, r2, rfl, d2, g4⟩ := g3.cons'
      obtain rfl := g4.nil'
      rw [kV_of ek d1] at g1
      exact ⟨a :: as, (k', w2) :: kvs, rfl, .cons (same_t sm g1) q1, by simp [q2], .cons d2 q3⟩
    · cases e
theorem mrg_zip {K : Kt} : ∀ {kv : List (Key × D)} {kvs : List (Key × V)} {ks : List Key} {xs : List D} {vs : List V}, kvs.map (·.1) = kv.map (·.1) → DAs K F (kv.map (·.2)) (kvs.map (·.2)) → ks.length = xs.length → DAs K F xs vs →
    ∃ ws, mergeK (ks.zip vs) kvs = (mrg ks xs kv).1.zip ws ∧ DAs K F (mrg ks xs kv).2 ws ∧ (mrg ks xs kv).1.length = (mrg ks xs kv).2.length
  | [], [], ks, xs, vs, _, _, l, h => ⟨vs, rfl, h, l⟩
  | [], _ :: _, ks, xs, vs, e, _, _, _ => by simp at e
  | _ :: _, [], ks, xs, vs, e, _, _, _ => by simp at e
  | (k, x) :: kv, (k', w) :: kvs, ks, xs, vs, e, d, l, h => by
    simp only [List.map_cons, List.cons.injEq] at e
    obtain ⟨rfl, e⟩ := e
    obtain ⟨w', r, e2, d1, d2⟩ := d.cons'
    cases e2
    obtain ⟨ws, e1, h1, l1⟩ := put_zip (k := k') d1 l h
    obtain ⟨us, e3, h3, l3⟩ := mrg_zip e d2 l1 h1
    refine ⟨us, ?_, h3, l3⟩
    show mergeK (putK (ks.zip vs) k' w) kvs = _
    rw [e1]
    exact e3
theorem ok_dictP : OkN Z (rDictP Z.K.K) dictPF := fun F H xs vs s Q sm p e k => by
  unfold dictPF at e
  split at e
  · obtain ⟨kv, e1, rfl⟩ := Option.map_eq_some_iff.mp e
    obtain ⟨v, rfl, h⟩ := pks_one p
    obtain ⟨a, ws, rfl, h1, h2⟩ := h.lst'
    obtain ⟨as, kvs, rfl, q1, q2, q3⟩ := prs_v sm e1 h2
    obtain ⟨us, e3, h3, l3⟩ := mrg_zip (ks := []) (xs := []) (vs := []) q2 q3 rfl .nil
    refine ⟨a, as, kvs, rfl, h1, q1, fun l n => ?_⟩
    rw [show mergeK [] kvs = (mrg [] [] kv).1.zip us from e3]
    exact k.M sm l3 h3 l n
  · cases e
end
end

section
section
variable {Z : Zt} {W : WX} {X : Cx} {F H : Hp}
def strsOf : List D → Option (List Str)
  | [] => some []
  | .str s :: r => (strsOf r).map fun ys => s :: ys
  | _ => none
theorem strs_v {K : Kt} : ∀ {xs : List D} {vs : List V} {ys : List Str}, strsOf xs = some ys → DAs K F xs vs → vs = ys.map V.str
  | [], _, _, e, h => by cases e; exact h.nil'
  | x :: xs, _, _, e, h => by
    obtain ⟨v, r, rfl, h1, h2⟩ := h.cons'
    cases x with
    | str s =>
      obtain ⟨ys, e', rfl⟩ := Option.map_eq_some_iff.mp (show (strsOf xs).map (fun ys => s :: ys) = _ from e)
      rw [da_str h1, strs_v e' h2]; rfl
    | _ => cases e
theorem strs_map : ∀ ys : List Str, strsOf (ys.map D.str) = some ys
  | [] => rfl
  | y :: ys => by rw [List.map_cons]; show (strsOf _).map _ = _; rw [strs_map ys]; rfl
theorem das_strs {K : Kt} : ∀ ys : List Str, DAs K F (ys.map D.str) (ys.map V.str)
  | [] => .nil
  | _ :: ys => .cons DA.str (das_strs ys)
def rJoinA (K : PySem.W.Frag) : V → List V → Hp → VK → Prop := fun x xs H Q => ∃ a p, ∃ ys : List Str, x = .str a ∧ xs = [.ref p] ∧ (SqL K H p (ys.map V.str) ∨ SqT K H p (ys.map V.str)) ∧
  (ys.map (·.length)).sum + ys.length * a.length ≤ 16777216 ∧ Q (.str (Txt.join a ys)) H
theorem oJoin (K : PySem.W.Frag) (h : X.K = K := by rfl) : MtR X "str.join" (rJoinA K) := h ▸ mt_join
def joinF (a : Str) : D → Option Str
  | .lst xs => (strsOf xs).bind fun ys => if (ys.map (·.length)).sum + ys.length * a.length ≤ 16777216 then some (Txt.join a ys) else none
  | .tup xs => (strsOf xs).bind fun ys => if (ys.map (·.length)).sum + ys.length * a.length ≤ 16777216 then some (Txt.join a ys) else none
  | _ => none
def joinG (mo mk : En → Rs D) : En → Rs D := fun ρ => (mo ρ).bind fun x ρ1 => match x with
  | .str a => (mk ρ1).bind fun l ρ2 => Rs.opt (joinF a l) fun z => .ok (.str z) ρ2
  | _ => .stuck
theorem d_join {e : Expr} {mo mk : En → Rs D} (h : PE X e (tBM X.K "str" (rJoinA Z.K.K) (dE Z W mo) (tCons (dE Z W mk) tNil))) : DE X Z W e (joinG mo mk) := ⟨pe_imp h fun σ H Q ⟨F, ρ, ea, q⟩ => by
  refine ⟨F, ρ, ea, ?_⟩
  unfold joinG at q
  refine q.bind.mono fun x ρ1 F1 H1 st1 e1 q v hv => ?_
  cases x with
  | str a =>
    rw [da_str hv]
    refine ⟨rfl, F1, ρ1, e1, q.bind.mono fun l ρ2 F2 H2 st2 e2 q w hw => ?_⟩
    show rJoinA _ _ _ _ _
    obtain ⟨z, ez, q⟩ := q.opt
    unfold joinF at ez
    split at ez
    · obtain ⟨ys, ey, ez⟩ := Option.bind_eq_some_iff.mp ez
      split at ez
      · rename_i hz
        cases ez
        obtain ⟨p, vs, rfl, h1, h2⟩ := hw.lst'
        rw [strs_v ey h2] at h1
        exact ⟨a, p, ys, rfl, rfl, .inl (e2.sub.seq h1), hz, q.here e2 _ DA.str⟩
      · cases ez
    · obtain ⟨ys, ey, ez⟩ := Option.bind_eq_some_iff.mp ez
      split at ez
      · rename_i hz
        cases ez
        obtain ⟨p, vs, rfl, h1, h2⟩ := hw.tup'
        rw [strs_v ey h2] at h1
        exact ⟨a, p, ys, rfl, rfl, .inr (same_t e2.sub h1), hz, q.here e2 _ DA.str⟩
      · cases ez
    · cases ez
  | _ => exact q.elim⟩
def rSplitA : V → List V → Hp → VK → Prop := fun x xs H Q => ∃ a b, x = .str a ∧ xs = [.str b] ∧ (b.length == 0) = false ∧ a.length + 2 ≤ sizeLine ∧ rNewStrs (Txt.split a b) H Q
theorem oSplit : MtR X "str.split" rSplitA := mt_split
def splitG (mo mk : En → Rs D) : En → Rs S := fun ρ => (mo ρ).bind fun x ρ1 => match x with
  | .str a => (mk ρ1).bind fun y ρ2 => match y with
    | .str b => if (b.length == 0) = false ∧ a.length + 2 ≤ 100000 then .ok (.L ((Txt.split a b).map .str)) ρ2 else .stuck
    | _ => .stuck
  | _ => .stuck
theorem d_split {e : Expr} {mo mk : En → Rs D} (h : PE X e (tBM X.K "str" rSplitA (dE Z W mo) (tCons (dE Z W mk) tNil))) : DF X Z W e (splitG mo mk) := ⟨pe_imp h fun σ H Q ⟨F, ρ, ea, q⟩ => by
  refine ⟨F, ρ, ea, ?_⟩
  unfold splitG at q
  refine q.bind.mono fun x ρ1 F1 H1 st1 e1 q v hv => ?_
  cases x with
  | str a =>
    rw [da_str hv]
    refine ⟨rfl, F1, ρ1, e1, q.bind.mono fun y ρ2 F2 H2 st2 e2 q w hw => ?_⟩
    show rSplitA _ _ _ _
    cases y with
    | str b =>
      have q : Sat Z W F2 H2 σ ρ2 (if (b.length == 0) = false ∧ a.length + 2 ≤ 100000 then Rs.ok (S.L ((Txt.split a b).map D.str)) ρ2 else .stuck) (fun s ρ' F' H' => ∀ v, RA Z H σ ρ F' H' ρ' v s → Q v H') := q
      by_cases hc : (b.length == 0) = false ∧ a.length + 2 ≤ 100000
      · rw [if_pos hc] at q
        rw [da_str hw]
        exact ⟨a, b, rfl, rfl, hc.1, line_lt (by omega), fun p hp => (Po.back (st1.trans st2) e2 q).L e2.sub (das_strs _) p hp⟩
      · rw [if_neg hc] at q
        exact q.elim
    | _ => exact q.elim
  | _ => exact q.elim⟩
end
end

section
/-- an error that has come down in a frame: what its clauses are told of it -/
structure Down (X : Cx) (pins : List (Addr × Obj)) (σ : L2.St) (H : Hp) (B : Heap) (t : Shared) (a : Addr) (cls : Value) (d : Option Addr) (s : Shared) : Prop where
  inv : Inv X pins σ H t
  old : ∀ b o, t.heap.get? b = some o → b ∉ frs X.stack → B.get? b = some o
  fly : HandSPX.FlyingZ B (X.env :: X.outer) a (Zc cls d) s.heap
  up : t.heap.UpToSlots s.heap
  new : H a = none
  os : s.os = t.os
  gens : AllBare s.gens
/-- a clause: the class that it names, the slot of its name if it has one, what it wishes -/
structure Clause where
  c : Value
  o : Option Nat
  ts : Addr → Value → Option Addr → TS
def Clause.ends (k : Clause) (D : Ends) : Ends := match k.o with
  | none => D
  | some i => { nx := fun σ' H' => D.nx (σ'.set i none) H', rt := D.rt, bk := fun σ' H' => D.bk (σ'.set i none) H', ct := fun σ' H' => D.ct (σ'.set i none) H' }
def Clause.put (k : Clause) (a : Addr) (σ : L2.St) : L2.St := match k.o with
  | none => σ
  | some i => σ.set i (some (.ref a))
/-- the clauses asked one after the other -/
def wAll (K : PySem.W.Frag) (out : WX) (D : Ends) : List Clause → WX
  | [] => out
  | k :: r => fun cls d σ H => ∃ b, PySem.W.exmOne K cls k.c = some b ∧ (b = true → ∀ a, H a = none → k.ts a cls d (k.ends D) (k.put a σ) H) ∧ (b = false → wAll K out D r cls d σ H)
/-- a clause as it is written -/
inductive ClauseOk (X : Cx) : ExceptHandler → Clause → Prop
  | plain {x : Str} {k : Clause} {b₀ : Stmt} {suite : List Stmt} {np pos' : Pos} (hn : k.o = none) (hc : Names X x k.c)
      (hsu : ∀ (a : Addr) (oe : Obj) (cls : Value) (d : Option Addr) (pn : List (Addr × Obj)), Zc cls d oe → (∃ vs, oe.data = .fields vs) → PSs (X.suite a ((a, oe) :: pn)) (b₀ :: suite) (k.ts a cls d)) :
      ClauseOk X (.ExceptHandler (some (.Name x np)) none (b₀ :: suite) pos') k
  | named {x n : Str} {i : Nat} {k : Clause} {b₀ : Stmt} {suite : List Stmt} {np pos' : Pos} (hn : k.o = some i) (hN : X.N.Nodup) (hi : X.N[i]? = some n) (hl : X.env.kindOf n = some .local) (hc : Names X x k.c)
      (hsu : ∀ (a : Addr) (oe : Obj) (cls : Value) (d : Option Addr) (pn : List (Addr × Obj)), Zc cls d oe → (∃ vs, oe.data = .fields vs) → PSs (X.suite a ((a, oe) :: pn)) (b₀ :: suite) (k.ts a cls d)) :
      ClauseOk X (.ExceptHandler (some (.Name x np)) (some n) (b₀ :: suite) pos') k
inductive ClausesOk (X : Cx) : List ExceptHandler → List Clause → Prop
  | nil : ClausesOk X [] []
  | cons {h : ExceptHandler} {k : Clause} {hs : List ExceptHandler} {ks : List Clause} (p : ClauseOk X h k) (r : ClausesOk X hs ks) : ClausesOk X (h :: hs) (k :: ks)
section
variable {X : Cx} {pins : List (Addr × Obj)} {σ : L2.St} {H : Hp} {B : Heap} {t s : Shared} {a : Addr} {cls : Value} {d : Option Addr}
theorem Down.inv' (w : Down X pins σ H B t a cls d s) : Inv X pins σ H s := w.inv.landed w.old w.fly.1 w.up w.os w.gens
/-- the error as an object, and the context of a suite -/
theorem Down.held (w : Down X pins σ H B t a cls d s) (hf : X.env.frame = some X.env.locals) : ∃ oe, s.heap.get? a = some oe ∧ Zc cls d oe ∧ (∃ vs, oe.data = .fields vs) ∧ Inv (X.suite a ((a, oe) :: (X.pn ++ pins))) [] σ H s := by
  obtain ⟨oe, vs, g, z, e⟩ := w.fly.there
  have away : a ∉ frs (X.env :: X.outer) := fun m => by
    obtain ⟨_, ob, g', no⟩ := w.fly.2.2.1.mem m
    obtain rfl : oe = ob := Option.some.inj (g.symm.trans g')
    exact no _ e
  have n1 : a ≠ X.env.locals := fun q => away (List.mem_filterMap.mpr ⟨_, List.mem_cons_self, q ▸ hf⟩)
  have n2 : a ∉ X.fs := fun m => by
    obtain ⟨y, my, fy⟩ := List.mem_filterMap.mp m
    exact away (List.mem_filterMap.mpr ⟨y, .tail _ my, fy⟩)
  exact ⟨oe, g, z, ⟨vs, e⟩, w.inv'.suite g e w.new n1 n2⟩
theorem Down.heap {h : Heap} (w : Down X pins σ H B t a cls d s) (fl : HandSPX.FlyingZ B (X.env :: X.outer) a (Zc cls d) h) (up : s.heap.UpToSlots h) : Down X pins σ H B t a cls d { s with heap := h } :=
  ⟨w.inv, w.old, fl, w.up.trans up, w.new, w.os, w.gens⟩
/-- no clause takes it: it flies on -/
theorem Down.on {D : Ends} {out : WX} (w : Down X pins σ H B t a cls d s) (hs : X.stack = X.env :: X.outer) (hf : X.env.frame = some X.env.locals) (tk : Takes X out) (ho : out cls d σ H) :
    wpAny (model X.prog X.w) X.A (handleBy (.ref a) X.env []) (SP X pins D) X.xe s := by
  have throwOn : wpAny (model X.prog X.w) X.A (setFlight (.ref a) X.env.frame) (fun _ s4 => wpAny (model X.prog X.w) X.A (throw (.ref a) : Sem Flow) (SP X pins D) X.xe s4) X.xe s := hf ▸ HandSPX.setFlight_upZ w.fly fun h hh up => wpAny_throw (tk _ _
    ⟨a, B, t, pins, σ, H, cls, d, rfl, w.inv, w.old, w.up.trans up, .inr (.inr (hs ▸ hh)), w.new, w.os, w.gens, ho⟩)
  obtain ⟨_, _, _, oe, vs, T, _, _, g, _, e, tb, _⟩ := id w.fly
  apply wpAny_handleBy_nil
  unfold PySem.passOn
  apply wpAny_bind
  apply wpAny_field g e tb
  have nn : ¬ ((Value.ref T == Value.none) = true) := by simp
  rw [if_neg nn]
  first | exact wpAny_bind (wpAny_pure (wpAny_bind throwOn)) | exact wpAny_bind throwOn
/-- the class that a clause names is looked up -/
theorem Down.named {x : Str} {c : Value} {np : Pos} (w : Down X pins σ H B t a cls d s) (hf : X.env.frame = some X.env.locals) (hc : Names X x c) {Q : Value → Shared → Prop} {E : Value → Shared → Prop} (q : Q c s) :
    wpAny (model X.prog X.w) (X.A.mark (some (.ref a))) (eval (.Name x np) X.env) Q E s := by
  obtain ⟨oe, _, _, _, S⟩ := w.held hf
  obtain ⟨g1, g2, g3⟩ := hc
  rcases g3 with m | ⟨m, v, nn⟩
  · exact ld_glob S g1 m q g2
  · exact ld_blt S g1 m v q nn g2
theorem Down.asked {c : Value} {b : Bool} (w : Down X pins σ H B t a cls d s) (h : PySem.W.exmOne X.K cls c = some b) : PySem.W.Looks (model X.prog X.w) s.heap (excMatches (.ref a) c) b := by
  obtain ⟨oe, vs, g, z, _⟩ := w.fly.there
  refine PySem.W.exm_one w.inv'.kIn (fun A Q E s' k q => ?_) h
  exact wpAny_typeOf_ref (k _ _ g) (z.1 ▸ q)
/-- the clauses, whichever takes it -/
theorem Down.clauses {D : Ends} {out : WX} (hs : X.stack = X.env :: X.outer) (hf : X.env.frame = some X.env.locals) (tk : Takes X out) {hds : List ExceptHandler} {ks : List Clause} (hk : ClausesOk X hds ks) :
    Down X pins σ H B t a cls d s → wAll X.K out D ks cls d σ H → wpAny (model X.prog X.w) X.A (handleBy (.ref a) X.env hds) (SP X pins D) X.xe s := by
  induction hk with
  | nil => exact fun w q => w.on hs hf tk q
  | @cons h k hds ks p r ih =>
    rintro w ⟨b, hb, yes, no⟩
    have ok := w.inv.ok
    cases p with
    | @plain x k b₀ suite np pos' hn hc hsu =>
      apply wpAny_handleBy_cons _ (fun z => by cases z)
      apply codeAny_handlers_test
      refine w.named hf hc ((w.asked hb).here ?_)
      cases b with
      | false => exact ih w (no rfl)
      | true =>
        apply codeAny_handlers_suite
        refine HandSPX.lands_againZ w.fly fun h' fl up => ?_
        obtain ⟨oe, _, z, e, S⟩ := (w.heap fl up).held hf
        have y := yes rfl a w.new
        simp only [Clause.ends, Clause.put, hn] at y
        refine wpAny_mono ((hsu a oe cls d (X.pn ++ pins) z e).run [] _ σ H D S y) (fun f s6 q => ?_) fun _ _ z => z.elim
        cases f with
        | next => exact let ⟨_, _, J, q⟩ := q; ⟨_, _, J.unsuite ok, q⟩
        | brk => exact let ⟨_, _, J, q⟩ := q; ⟨_, _, J.unsuite ok, q⟩
        | cont => exact let ⟨_, _, J, q⟩ := q; ⟨_, _, J.unsuite ok, q⟩
        | ret u => exact let ⟨_, _, _, J, rv, q⟩ := q; ⟨_, _, _, J.unsuite ok, rv, q⟩
    | @named x n i k b₀ suite np pos' hn hN hi hl hc hsu =>
      apply wpAny_handleBy_cons _ (fun z => by cases z)
      apply codeAny_handlers_test
      refine w.named hf hc ((w.asked hb).here ?_)
      cases b with
      | false => exact ih w (no rfl)
      | true =>
        apply codeAny_handlers_suite_as
        refine HandSPX.lands_againZ w.fly fun h' fl up => ?_
        obtain ⟨oe, _, z, e, S⟩ := (w.heap fl up).held hf
        have y := yes rfl a w.new
        simp only [Clause.ends, Clause.put, hn] at y
        refine store_ok (X := X.suite a ((a, oe) :: (X.pn ++ pins))) (i := i) (v := .ref a) S hN hi (.inl hl) rfl (fun s5 S5 => ?_) (.inr hl)
        refine wpAny_mono ((hsu a oe cls d (X.pn ++ pins) z e).run [] s5 _ H _ S5 y) (fun f s6 q => ?_) fun _ _ z => z.elim
        cases f with
        | next => exact let ⟨_, _, J, q⟩ := q; gone_ok (J.unsuite ok) hN hi hl fun _ J' => ⟨_, _, J', q⟩
        | brk => exact let ⟨_, _, J, q⟩ := q; gone_ok (J.unsuite ok) hN hi hl fun _ J' => ⟨_, _, J', q⟩
        | cont => exact let ⟨_, _, J, q⟩ := q; gone_ok (J.unsuite ok) hN hi hl fun _ J' => ⟨_, _, J', q⟩
        | ret u => exact let ⟨_, _, _, J, rv, q⟩ := q; gone_ok (J.unsuite ok) hN hi hl fun _ J' => ⟨_, _, _, J', rv, q⟩
end
section
variable {X : Cx} {body : List Stmt} {h₀ : ExceptHandler} {hds : List ExceptHandler} {ks : List Clause} {pos : Pos} {tb : WX → TS} {out : WX}
/-- the suite that is tried, wherever its errors go -/
abbrev Tried (X : Cx) (body : List Stmt) (tb : WX → TS) : Prop := ∀ (goes : WX) (kept : List (Addr × Obj)) (way : Value → Shared → Prop), Takes (X.tr kept way) goes → PassesOwn (model X.prog X.w) X.A X.env way → PSs (X.tr kept way) body (tb goes)
theorem ps_try_all (hs : X.stack = X.env :: X.outer) (hf : X.env.frame = some X.env.locals) (tk : Takes X out) (hb : Tried X body tb)
    (hh : ClausesOk X (h₀ :: hds) ks) : PS X (.Try body (h₀ :: hds) [] [] pos) (fun D σ H => tb (wAll X.K out D ks) D σ H) := ⟨fun pins s σ H D I h => by
  have ok := I.ok
  have fr : X.A.frames = some (X.env :: X.outer) := hs ▸ ok.frames
  apply wpAny_Try_except
  refine wpAny_mono ((hb (wAll X.K out D ks) (X.pn ++ pins) (fun e s₁ => wpAny (model X.prog X.w) X.A (noteFrame e X.env) (fun _ s₂ => wpAny (model X.prog X.w) X.A (setFlight e none) (fun _ s₃ =>
    wpAny (model X.prog X.w) X.A (handleBy e X.env (h₀ :: hds)) (SP X pins D) X.xe s₃) X.xe s₂) X.xe s₁) ?_ PassesOwn.looking).run [] s σ H D (I.toTry _) h) ?_ fun _ _ z => z
  · rintro u s' ⟨a, B, t, pins', σ', H', cls, d, rfl, J, old, up, sky, new, os, gens, w⟩
    exact Sky.land Zc.steady fr hf (hs ▸ sky) fun h' fl up' => Down.clauses hs hf tk hh ⟨J.ofTry ok, old, fl, up.trans up', new, os, gens⟩ w
  · intro f s1 q
    cases f with
    | next => exact let ⟨_, _, J, q⟩ := q; wpAny_execs_nil ⟨_, _, J.ofTry ok, q⟩
    | brk => exact let ⟨_, _, J, q⟩ := q; ⟨_, _, J.ofTry ok, q⟩
    | cont => exact let ⟨_, _, J, q⟩ := q; ⟨_, _, J.ofTry ok, q⟩
    | ret u => exact let ⟨_, _, _, J, rv, q⟩ := q; ⟨_, _, _, J.ofTry ok, rv, q⟩⟩
end
/-! ### the data layer: several clauses -/
/-- a clause of data: which errors it takes, its slot, its suite -/
structure Cla where
  p : Nat → Bool
  o : Option Nat
  h : En → Ctl
def pickC : List Cla → Nat → List D → En → Ctl
  | [], c, xs, ρ => .exc c xs ρ
  | k :: r, c, xs, ρ => if k.p c = true then (match k.o with | some i => fixE i (k.h (ρ.set i (.X c xs))) | none => calC (k.h ρ)) else pickC r c xs ρ
def tryM (ks : List Cla) (b : En → Ctl) : En → Ctl := fun ρ => match b ρ with
  | .exc c xs ρ1 => pickC ks c xs ρ1
  | r => r
section
variable {Z : Zt} {W : WX} {X : Cx} {F H F1 H1 : Hp} {σ : L2.St} {ρ ρ1 : En} {Q : VK}
def Cla.ts (Z : Zt) (k : Cla) : Addr → Value → Option Addr → TS := fun a cls d => match k.o with
  | some _ => dS { Z with xa := some (a, cls, d) } W0 k.h
  | none => dS Z W0 k.h
/-- data's clauses and the machine's -/
inductive ClaOk (Z : Zt) : List Cla → List Clause → Prop
  | nil : ClaOk Z [] []
  | cons {c : Value} {k : Cla} {ks : List Cla} {cs : List Clause} (hp : EOk Z c k.p) (hi : ∀ i, k.o = some i → i ∉ Z.bp) (r : ClaOk Z ks cs) : ClaOk Z (k :: ks) (⟨c, k.o, k.ts Z⟩ :: cs)
theorem calC_in {E : Ends} {r : Ctl} (h : StS Z W F H σ ρ (calC r) E) : StS Z W0 F H σ ρ r E := by
  cases r with
  | exc => exact h.elim
  | _ => exact h
theorem pick_in {E : Ends} (hx : Z.xa = none) {ks : List Cla} {cs : List Clause} (hk : ClaOk Z ks cs) {c' : Nat} {xs : List D} {ρ1 : En} {cls : Value} {dd : Option Addr} {σ' : L2.St} {F' H' : Hp} (st : Stp Z F H σ ρ F' H' σ' ρ1) (e : EA Z F' H' σ' ρ1) (xa : XA Z.K F' cls dd c' xs) :
    StS Z W F H σ ρ (pickC ks c' xs ρ1) E → wAll Z.K.K W E cs cls dd σ' H' := by
  obtain ⟨nm, fs, vs, x1, x2, x3, x4, x5, x6⟩ := xa
  induction hk with
  | nil => exact fun q => q cls dd σ' F' H' st e ⟨nm, fs, vs, x1, x2, x3, x4, x5, x6⟩
  | @cons c k ks cs hp hi r ih =>
    intro q
    refine ⟨k.p c', by rw [x2]; exact hp c' nm fs x1, fun hc a ha => ?_, fun hc => ih ?_⟩
    · unfold pickC at q
      rw [if_pos hc] at q
      cases ho : k.o with
      | none =>
        rw [ho] at q
        simp only [Clause.ends, Clause.put, Cla.ts, ho]
        exact ⟨F', ρ1, e, StS.from st (calC_in q)⟩
      | some i =>
        rw [ho] at q
        simp only [Clause.ends, Clause.put, Cla.ts, ho]
        have e' : EA { Z with xa := some (a, cls, dd) } F' H' σ' ρ1 := ⟨e.sub, e.len, fun j s hj => by
          have z := e.sl j s hj
          cases s with
          | X c xs => obtain ⟨_, _, _, _, _, _, _, _, w, _⟩ := z; rw [hx] at w; cases w
          | un => trivial
          | d x => exact z
          | L xs => exact z
          | M ks xs => exact z
          | T ks xs => exact z
          | O c xs => exact z, e.dis⟩
        obtain ⟨s2, e2⟩ := set_d (Z := { Z with xa := some (a, cls, dd) }) (s := .X c' xs) (v := .ref a) (i := i) e' (hi i ho) ⟨nm, fs, a, cls, dd, vs, x1, rfl, rfl, x2, x3, x4, x5, x6⟩ (fun z => nomatch z) (fun z => nomatch z)
        exact ⟨F', _, e2, ca (Z := Z) (Z' := { Z with xa := some (a, cls, dd) }) rfl rfl (hi i ho) (StS.from (st.trans (stpZ (Z' := { Z with xa := some (a, cls, dd) }) rfl s2)) q)⟩
    · unfold pickC at q
      rw [if_neg (by rw [hc]; exact Bool.false_ne_true)] at q
      exact q
theorem tryM_in {ks : List Cla} {cs : List Clause} {b : En → Ctl} (hk : ClaOk Z ks cs) (hx : Z.xa = none) : ∀ E σ H, dS Z W (tryM ks b) E σ H → dS Z (wAll Z.K.K W E cs) b E σ H := fun E σ H ⟨F, ρ, ea, q⟩ => ⟨F, ρ, ea, by
  unfold tryM at q
  cases hb : b ρ with
  | stuck => rw [hb] at q; exact q
  | nx => rw [hb] at q; exact q
  | brk => rw [hb] at q; exact q
  | cnt => rw [hb] at q; exact q
  | ret => rw [hb] at q; exact q
  | exc c' xs ρ1 =>
    rw [hb] at q
    exact fun cls dd σ' F' H' st e xa => pick_in hx hk st e xa q⟩
/-- the clauses as they are written, with what they do to data -/
inductive ClsOk (X : Cx) (Z : Zt) : List ExceptHandler → List Cla → Prop
  | nil : ClsOk X Z [] []
  | plain {x : Str} {c : Value} {p : Nat → Bool} {b₀ : Stmt} {suite : List Stmt} {np pos' : Pos} {h : En → Ctl} {hs : List ExceptHandler} {ks : List Cla} (hp : EOk Z c p) (hc : Names X x c)
      (hsu : ∀ (a : Addr) (oe : Obj) (cls : Value) (d : Option Addr) (pn : List (Addr × Obj)), Zc cls d oe → (∃ vs, oe.data = .fields vs) → DB (X.suite a ((a, oe) :: pn)) Z W0 (b₀ :: suite) h) (r : ClsOk X Z hs ks) :
      ClsOk X Z (.ExceptHandler (some (.Name x np)) none (b₀ :: suite) pos' :: hs) (⟨p, none, h⟩ :: ks)
  | named {x n : Str} {c : Value} {i : Nat} {p : Nat → Bool} {b₀ : Stmt} {suite : List Stmt} {np pos' : Pos} {h : En → Ctl} {hs : List ExceptHandler} {ks : List Cla} (hp : EOk Z c p) (hbp : i ∉ Z.bp) (hN : X.N.Nodup) (hi : X.N[i]? = some n) (hl : X.env.kindOf n = some .local) (hc : Names X x c)
      (hsu : ∀ (a : Addr) (oe : Obj) (cls : Value) (d : Option Addr) (pn : List (Addr × Obj)), Zc cls d oe → (∃ vs, oe.data = .fields vs) → DB (X.suite a ((a, oe) :: pn)) { Z with xa := some (a, cls, d) } W0 (b₀ :: suite) h) (r : ClsOk X Z hs ks) :
      ClsOk X Z (.ExceptHandler (some (.Name x np)) (some n) (b₀ :: suite) pos' :: hs) (⟨p, some i, h⟩ :: ks)
theorem ClsOk.both {hs : List ExceptHandler} {ks : List Cla} (h : ClsOk X Z hs ks) : ∃ cs, ClaOk Z ks cs ∧ ClausesOk X hs cs := by
  induction h with
  | nil => exact ⟨[], .nil, .nil⟩
  | plain hp hc hsu r ih =>
    obtain ⟨cs, a, b⟩ := ih
    exact ⟨_, .cons hp (fun i z => nomatch z) a, .cons (.plain rfl hc fun a oe cls d pn hz hf => (hsu a oe cls d pn hz hf).pss) b⟩
  | named hp hbp hN hi hl hc hsu r ih =>
    obtain ⟨cs, a, b⟩ := ih
    exact ⟨_, .cons hp (fun i z => by cases z; exact hbp) a, .cons (.named rfl hN hi hl hc fun a oe cls d pn hz hf => (hsu a oe cls d pn hz hf).pss) b⟩
theorem d_tryM {h₀ : ExceptHandler} {hds : List ExceptHandler} {ks : List Cla} {body : List Stmt} {pos : Pos} {b : En → Ctl} (hh : ClsOk X Z (h₀ :: hds) ks) (hxa : Z.xa = none) (hs : X.stack = X.env :: X.outer) (hf : X.env.frame = some X.env.locals) (tk : Takes X W)
    (hb : ∀ (W : WX) (pn : List (Addr × Obj)) (xe : Value → Shared → Prop), Takes (X.tr pn xe) W → PassesOwn (model X.prog X.w) X.A X.env xe → DB (X.tr pn xe) Z W body b) (hk : X.K = Z.K.K := by rfl) :
    DS X Z W (.Try body (h₀ :: hds) [] [] pos) (tryM ks b) := by
  obtain ⟨cs, c1, c2⟩ := hh.both
  exact ⟨ps_imp (ps_try_all hs hf tk (fun W pn xe tk po => (hb W pn xe tk po).pss) c2) (hk ▸ tryM_in c1 hxa)⟩
end
/-! ### k in a dict -/
def rInDK : R2 := fun x y H Q => ∃ a o, y = .ref a ∧ DGet H a x o ∧ Q (.bl o.isSome) H
def rNinDK : R2 := fun x y H Q => ∃ a o, y = .ref a ∧ DGet H a x o ∧ Q (.bl (!o.isSome)) H
section
variable {Z : Zt} {W : WX} {X : Cx} {F H : Hp}
theorem op_inDK (hu : X.A.units + 1 < cLine) : OpR X (compareOp .In) rInDK := fun pins s σ H x y v u Q I rx ry ⟨a, o, e, g, q⟩ => by
  subst e
  cases (show u = Value.ref a from ry)
  exact d_in hu I g rx fun _ J => ⟨.bl o.isSome, H, J, rfl, q⟩
theorem op_ninDK (hu : X.A.units + 1 < cLine) : OpR X (compareOp .NotIn) rNinDK := fun pins s σ H x y v u Q I rx ry ⟨a, o, e, g, q⟩ => by
  subst e
  cases (show u = Value.ref a from ry)
  exact d_notIn hu I g rx fun _ J => ⟨.bl (!o.isSome), H, J, rfl, q⟩
def rInE (K : PySem.W.Frag) : R2 := fun x y H Q => rInA K x y H Q ∨ rInDK x y H Q
def rNinE (K : PySem.W.Frag) : R2 := fun x y H Q => rNotInA K x y H Q ∨ rNinDK x y H Q
theorem oInE (K : PySem.W.Frag) (hu : X.A.units + 1 < cLine) (h : X.K = K := by rfl) : OpR X (compareOp .In) (rInE K) := (h ▸ op_inA).or (op_inDK hu)
theorem oNinE (K : PySem.W.Frag) (hu : X.A.units + 1 < cLine) (h : X.K = K := by rfl) : OpR X (compareOp .NotIn) (rNinE K) := (h ▸ op_notInA).or (op_ninDK hu)
def memE : D → D → Option Bool
  | x, .dct ks xs => if ks.length = xs.length then (keyOf x).map fun k => ks.any fun k' => decide (k' = k) else none
  | x, y => memF x y
def inE (x y : D) : Option S := (memE x y).map sB
def ninE (x y : D) : Option S := (memE x y).map fun b => sB (!b)
theorem val_mem {k : Key} : ∀ {ks : List Key} {vs : List V}, ks.length = vs.length → (valV (ks.zip vs) k).isSome = ks.any fun k' => decide (k' = k)
  | [], _, _ => by simp [valV]
  | k' :: ks, [], h => by cases h
  | k' :: ks, v :: vs, h => by
    have ih := val_mem (k := k) (ks := ks) (vs := vs) (by simpa using h)
    unfold valV at ih ⊢
    rw [List.zip_cons_cons, List.find?_cons, List.any_cons, ← ih]
    by_cases c : k' = k
    · subst c; simp
    · simp only [c, decide_false, Bool.false_or]
theorem key_pk {K : Kt} {d : D} {k : Key} {v : V} (h : keyOf d = some k) (hv : Pk K F H d v) : v = kV k := by
  cases d with
  | int i => cases h; exact pk_int hv
  | str i => cases h; exact pk_str hv
  | _ => cases h
theorem mem_dk {K : Kt} {x : D} {ks : List Key} {xs : List D} {v w : V} {b : Bool} (p : Pk K F H x v) (q : Pk K F H (.dct ks xs) w) (e : memE x (.dct ks xs) = some b) : ∃ a o, w = .ref a ∧ DGet H a v o ∧ o.isSome = b := by
  simp only [memE] at e
  split at e
  · obtain ⟨k, ek, rfl⟩ := Option.map_eq_some_iff.mp e
    obtain ⟨a, vs, rfl, ha, l, hd⟩ := q
    rw [key_pk ek p]
    exact ⟨a, _, rfl, DGet.k ha, val_mem (l.trans hd.length.symm)⟩
  · cases e
theorem ok_inE : Ok2 Z (rInE Z.K.K) inE := fun F H x y v w s Q sm p q e k => by
  by_cases c : ∃ ks xs, y = .dct ks xs
  · obtain ⟨ks, xs, rfl⟩ := c
    obtain ⟨b, e1, rfl⟩ := Option.map_eq_some_iff.mp e
    obtain ⟨a, o, rfl, g, hb⟩ := mem_dk p q e1
    exact .inr ⟨a, o, rfl, g, by rw [hb]; exact k.dat sm DA.bl⟩
  · refine .inl (ok_in F H x y v w s Q sm p q ?_ k)
    unfold inF; unfold inE at e
    cases y <;> first | exact e | exact absurd ⟨_, _, rfl⟩ c
theorem ok_ninE : Ok2 Z (rNinE Z.K.K) ninE := fun F H x y v w s Q sm p q e k => by
  by_cases c : ∃ ks xs, y = .dct ks xs
  · obtain ⟨ks, xs, rfl⟩ := c
    obtain ⟨b, e1, rfl⟩ := Option.map_eq_some_iff.mp e
    obtain ⟨a, o, rfl, g, hb⟩ := mem_dk p q e1
    exact .inr ⟨a, o, rfl, g, by rw [hb]; exact k.dat sm DA.bl⟩
  · refine .inl (ok_nin F H x y v w s Q sm p q ?_ k)
    unfold ninF; unfold ninE at e
    cases y <;> first | exact e | exact absurd ⟨_, _, rfl⟩ c
/-! ### slices, of a tuple the whole, too -/
def rSlW (K : PySem.W.Frag) : V → Option Int → Option Int → Hp → VK → Prop := fun x lo hi H Q => rSlA K x lo hi H Q ∨ L2.rSlA K x lo hi H Q
theorem sl_W : SlR X (rSlW X.K) := sl_A.or sl_tupA
def slW (x : D) (lo hi : Option Int) : Option S := match x with
  | .tup xs => if HT.sIx xs.length 0 lo = 0 ∧ HT.sIx xs.length xs.length hi = xs.length then some (.d (.tup xs)) else some (.d (.tup (cutD xs lo hi)))
  | x => slF x lo hi
def slWG (h : En → Rs Hd) (m k : En → Rs (Option Int)) : En → Rs S := fun ρ => (h ρ).bind fun a ρ1 => (m ρ1).bind fun lo ρ2 => (k ρ2).bind fun hi ρ3 => Rs.opt (a.res ρ3) fun x => Rs.opt (slW x lo hi) fun s => .ok s ρ3
theorem ok_slW : ∀ F H (x : D) v lo hi s Q, Same F H → Pk Z.K F H x v → slW x lo hi = some s → Po Z F H Q s → rSlW Z.K.K v lo hi H Q := fun F H x v lo hi s Q sm p e k => by
  by_cases c : ∃ xs, x = .tup xs
  · obtain ⟨xs, rfl⟩ := c
    simp only [slW] at e
    obtain ⟨a, vs, rfl, h1, h2, h3⟩ := p
    split at e
    · rename_i hw
      cases e
      refine .inr ⟨a, vs, rfl, h1, fun _ => k.dat sm (DA.tup h3 h2), fun hn => absurd (by rw [h2.length]; exact hw) hn⟩
    · rename_i hn
      cases e
      exact .inl (.inr (.inl ⟨a, vs, rfl, h1, by rw [h2.length]; exact hn, fun b n => k.tup sm (cut_das h2) b n⟩))
  · refine .inl (ok_sl F H x v lo hi s Q sm p ?_ k)
    cases x <;> first | exact e | exact absurd ⟨_, rfl⟩ c
theorem d_slW {e : Expr} {lo hi : Option Expr} {pos p2 : Pos} {h : En → Rs Hd} {m k : En → Rs (Option Int)} (he : DO X Z W e h) (h1 : DP X Z W lo m) (h2 : DP X Z W hi k) (hk : X.K = Z.K.K := by rfl) : DF X Z W (.Subscript e (.Slice lo hi none p2) pos) (slWG h m k) :=
  ⟨pe_imp (pe_slice sl_W he.pe h1.po h2.po) fun σ H Q ⟨F, ρ, ea, q⟩ => ⟨F, ρ, ea, q.bind.mono fun a ρ1 F1 H1 st1 e1 q v hv => ⟨F1, ρ1, e1, q.bind.mono fun lo ρ2 F2 H2 st2 e2 q => ⟨F2, ρ2, e2, q.bind.mono fun hi ρ3 F3 H3 st3 e3 q => by
    obtain ⟨x, ex, q⟩ := q.opt
    obtain ⟨s, es, q⟩ := q.opt
    exact hk ▸ ok_slW F3 H3 x v lo hi s Q e3.sub ((hv.mono (st2.same.trans st3.same)).pk e3 ex) es (Po.back ((st1.trans st2).trans st3) e3 q)⟩⟩⟩⟩
end
end

section
/-- a class's own __str__ -/
structure OwnS (P : Program) (w : World) (K : PySem.W.Frag) (mg : Str → Option Value) (base : Heap) (CX : CXT) (k : Nat) (C : Addr) (sp : Sp) : Prop where
  ex : ∃ (f : Addr) (fd : FuncData) (ps : List Str), FnOk P w K mg base CX k f fd ps sp ∧ PySem.W.findIn K (.ref C) "__str__" = some (some (.ref f)) ∧ PySem.W.isFn K (.ref f) = true ∧ Binds K fd ps []
/-- nothing is raised -/
abbrev E1 : XK := fun _ _ _ => False
theorem passes_none {X : Cx} : Passes (L2.CX X.prog X.w) X E1 := by
  rintro pins σ H s e s' _ ⟨a, B, H', cls, d, _, _, _, _, _, _, _, z⟩
  exact z.elim
def rStrO (C : Addr) (sp : Sp) : List V → Hp → VK → Prop := fun xs H Q => ∃ a dx fs, xs = [.ref a] ∧ H a = some (.ins C dx fs) ∧ sp [.ref a] H (fun v H' => (∃ z, v = .str z) ∧ Q v H') E1
theorem call_strO {X : Cx} {k j : Nat} {C : Addr} {sp : Sp} (c : OwnS X.prog X.w X.K X.mg X.base (L2.CX X.prog X.w) k C sp) (hr : Room j X.A) (hk : k + 2 ≤ j) : CallR X (.type "str") (rStrO C sp) := by
  intro pins s σ H xs us Q I r h
  obtain ⟨f, fd, ps, F, hs, hf, hb⟩ := c.ex
  obtain ⟨a, dx, fs, rfl, ha, h⟩ := h
  obtain ⟨u, rfl, ru⟩ := vals1 r
  cases ru
  obtain ⟨mA, J, _⟩ := ins_get I.hok ha
  obtain ⟨od, J, _⟩ := J.look
  have sb : L2.Sub X (k + 2) X.A := ⟨hr.mono hk, rfl⟩
  have sb2 := sb.in1.in1
  have e := I.env0
  have e0 : Env0 X.prog X.w X.K X.mg X.base X.A.in1.in1 X.stack s H := ⟨by rw [sb2.fr]; exact e.frames, e.mod, e.bs, e.bsz, e.funs, e.frf, e.hok, e.bare⟩
  have hl := F.len _ _ _ _ h
  have b := hb s [.ref a] I.kIn (by simpa using hl)
  rw [List.append_nil] at b
  refine PySem.W.kso_call (by have := sb2.room.un; omega) I.kIn J hs hf (wpAny_call (codeAny_mono (F.run X.A.in1.in1 X.stack s H { pos := [.ref a] } [.ref a] [.ref a] _ E1 sb2.room e0 b (.cons rfl .nil) h) ?_))
  intro r s' q
  match r, q with
  | .ok (.ret z), q =>
    obtain ⟨v', H', I', rv, ⟨y, rfl⟩, qq⟩ := I.after q
    obtain ⟨t, rfl⟩ := rv
    exact ⟨.str y, H', I', ⟨t, rfl⟩, qq⟩
  | .error e, q => exact passes_none pins σ H s e s' I q
section
variable {Z : Zt} {W : WX} {X : Cx} {F H : Hp} {σ : L2.St} {ρ : En}
/-- its text, where it tells one -/
def strO (c : Nat) (m : List S → Rs S) (h : En → Rs Hd) : En → Rs S := fun ρ => (h ρ).bind fun a ρ0 => if clsOf ρ0 a = some c then Rs.opt (argsS ρ0 [a]) fun ss => (match m ss with
  | .ok (.d (.str z)) ss' => .ok (.d (.str z)) (backS [a] ss' ρ0)
  | _ => .stuck) else .stuck
theorem strO_in {c : Nat} {nm : Str} {fs : List Str} {m : List S → Rs S} {h : En → Rs Hd} (hc : Z.K.ct[c]? = some (nm, fs)) : ∀ σ H Q, dF Z W (strO c m h) σ H Q → tCB (rStrO (He.ga Z.K.K nm) (spD Z.K 1 m)) (tCons (dO Z W h) tNil) σ H Q := fun σ H Q ⟨F, ρ, ea, q⟩ => ⟨F, ρ, ea, q.bind.mono fun a ρ0 F0 H0 st0 e0 q v hv => by
  by_cases c0 : clsOf ρ0 a = some c
  · rw [if_pos c0] at q
    obtain ⟨nm', fs', x, dx, gs, k1, rfl, k3⟩ := cls_at e0 hv c0
    rw [hc] at k1; cases k1
    obtain ⟨ss, es, q⟩ := q.opt
    have hv' : HdsA Z.K F0 σ [V.ref x] [a] := ⟨hv, trivial⟩
    have nd : (sls [a]).Nodup := by cases a <;> simp [sls]
    refine ⟨x, dx, _, rfl, k3, rfl, F0, ss, call_ea e0 hv' es nd, ?_⟩
    cases hm : m ss with
    | stuck => rw [hm] at q; exact q.elim
    | exc c' xs ρ' => rw [hm] at q; exact q.elim
    | ok s ss' =>
      rw [hm] at q
      have key : ∃ z, s = .d (.str z) := by
        cases s with
        | d y => cases y with
          | str z => exact ⟨z, rfl⟩
          | _ => exact q.elim
        | _ => exact q.elim
      obtain ⟨z, rfl⟩ := key
      intro F' H' st2 e2 v ra
      obtain ⟨a1, a2, _, _, k⟩ := rsB_sat (r := .ok (.d (.str z)) ss') q e0 hv' es nd F' H' st2 e2
      obtain ⟨⟨v', ev, dv⟩, _⟩ := ra
      cases ev
      exact ⟨⟨z, da_str dv⟩, k v ⟨⟨v, rfl, dv⟩, fun w => nomatch w⟩⟩
  · rw [if_neg c0] at q; exact q.elim⟩
theorem d_strO {c k j : Nat} {nm : Str} {fs : List Str} {m : List S → Rs S} {h : En → Rs Hd} {e : Expr} {p pos : Pos} (hc : Z.K.ct[c]? = some (nm, fs)) (o : OwnS X.prog X.w X.K X.mg X.base (L2.CX X.prog X.w) k (He.ga Z.K.K nm) (spD Z.K 1 m)) (hr : Room j X.A) (hk : k + 2 ≤ j) (hg : Gl X "str") (hm : X.mg "str" = none) (ho : DO X Z W e h)
    (hb : bootBuiltins "str" = some (.type "str") := by decide +kernel) (he : StarOk X e [] := by rfl) (hpl : NoStars X pos [] := by rfl) : DF X Z W (.Call (.Name "str" p) [e] [] pos) (strO c m h) :=
  ⟨pe_imp (pe_callTy (call_strO o hr hk) hg hm hb (pa_cons ho.pe pa_nil he) (by decide) (by decide) he hpl) (strO_in hc)⟩
/-! ### *xs in a display -/
/-- the items of a thing that is spread out -/
def sprd : D → Option (List D)
  | .lst xs => some xs
  | .tup xs => some xs
  | _ => none
def lsS (m : En → Rs D) (g : En → Rs (List D)) : En → Rs (List D) := fun ρ => (m ρ).bind fun x ρ1 => Rs.opt (sprd x) fun ys => (g ρ1).bind fun xs ρ2 => .ok (ys ++ xs) ρ2
theorem d_lsS {e : Expr} {es : List Expr} {p : Pos} {m : En → Rs D} {g : En → Rs (List D)} (he : DE X Z W e m) (hg : DL X Z W es g) (hk : X.K = Z.K.K := by rfl) (hs : starEach (.Starred e p :: es) X.env = (true, eval e X.env) :: starEach es X.env := by rfl) : DL X Z W (.Starred e p :: es) (lsS m g) :=
  ⟨pa_imp (StX.pa_star he.pe hg.pa hs) fun σ H Q ⟨F, ρ, ea, q⟩ => ⟨F, ρ, ea, q.bind.mono fun x ρ1 F1 H1 st e1 q v hv => by
    obtain ⟨ys, ey, q⟩ := q.opt
    have key : ∃ a vs, v = .ref a ∧ (SqT X.K H1 a vs ∨ SqL X.K H1 a vs) ∧ DAs Z.K F1 ys vs := by
      cases x with
      | lst xs => cases ey; obtain ⟨a, vs, rfl, h1, h2⟩ := hv.lst'; exact ⟨a, vs, rfl, .inr (by rw [hk]; exact e1.sub.seq h1), h2⟩
      | tup xs => cases ey; obtain ⟨a, vs, rfl, h1, h2⟩ := hv.tup'; exact ⟨a, vs, rfl, .inl (by rw [hk]; exact same_t e1.sub h1), h2⟩
      | _ => cases ey
    obtain ⟨a, vs, rfl, h1, h2⟩ := key
    exact ⟨a, vs, rfl, h1, F1, ρ1, e1, q.bind.mono fun xs ρ2 F2 H2 st2 e2 q ws hws => q.here e2 (vs ++ ws) ((h2.mono st2.same).append hws)⟩⟩⟩
end
/-! ### x is None, whatever x is -/
def isO : D → D → Option S
  | .non, .non => some (sB true)
  | _, .non => some (sB false)
  | _, _ => none
def notO (x y : D) : Option S := match isO x y with
  | some (.d (.bl b)) => some (sB (!b))
  | _ => none
section
variable {Z : Zt}
theorem ok_isO : Ok2 Z rIsN isO := fun F H x y v w s Q sm p q e k => by
  cases y with
  | non =>
    refine ⟨pk_non q, ?_⟩
    cases x with
    | non => cases e; rw [pk_non p]; exact k.dat sm DA.bl
    | _ => cases e; rw [decide_eq_false (pk_ne_non p fun z => nomatch z)]; exact k.dat sm DA.bl
  | _ => cases x <;> cases e
theorem ok_notO : Ok2 Z rNotN notO := fun F H x y v w s Q sm p q e k => by
  cases y with
  | non =>
    refine ⟨pk_non q, ?_⟩
    cases x with
    | non => cases e; rw [pk_non p]; exact k.dat sm DA.bl
    | _ => cases e; rw [decide_eq_false (pk_ne_non p fun z => nomatch z)]; exact k.dat sm DA.bl
  | _ => cases x <;> cases e
end
end

section
/-- a slot behind all others holds the new list -/
def dA1 (Z : Zt) (W : WX) (m : En → Rs (List Hd × List D)) : TA := fun σ H Q => ∃ F ρ, EA Z F H σ ρ ∧ Sat Z W F H σ ρ (m ρ) fun p ρ' F' H' => ∀ vs a ws, F' a = none → H' a = some (.lst ws) → DAs Z.K F' p.2 ws → (∀ i, ¬ OwnI σ ρ' i a) → Ori H σ ρ a → HdsA Z.K F' (σ ++ [some (.ref a)]) vs p.1 → Q vs H'
structure DR1 (X : Cx) (Z : Zt) (W : WX) (es : List Expr) (m : En → Rs (List Hd × List D)) : Prop where
  pa : L2.PA X es (dA1 Z W m)
def arcP (a : En → Rs Hd) (m : En → Rs (List Hd × List D)) : En → Rs (List Hd × List D) := fun ρ => (a ρ).bind fun h ρ1 => (m ρ1).bind fun p ρ2 => .ok (h :: p.1, p.2) ρ2
def arcL (g : En → Rs (List D)) (m : En → Rs (List Hd)) : En → Rs (List Hd × List D) := fun ρ => (g ρ).bind fun xs ρ1 => if xs.length ≤ 1000 then (m ρ1).bind fun hs ρ2 => .ok (.sl ρ2.length :: hs, xs) ρ2 else .stuck
section
variable {Z : Zt} {W : WX} {X : Cx} {F H F1 H1 F' H' : Hp} {σ : L2.St} {ρ ρ1 : En}
theorem hd_app {K : Kt} {u : List (Option V)} {v : V} {h : Hd} (q : HdA K F σ v h) : HdA K F (σ ++ u) v h := by
  cases h with
  | dt x => exact q
  | sl j =>
    show (σ ++ u)[j]? = some (some v)
    rw [List.getElem?_append_left (List.getElem?_eq_some_iff.mp (show σ[j]? = some (some v) from q)).1]
    exact q
theorem d_arcP {e : Expr} {es : List Expr} {a : En → Rs Hd} {m : En → Rs (List Hd × List D)} (he : DO X Z W e a) (hg : DR1 X Z W es m) (hs : StarOk X e es := by rfl) : DR1 X Z W (e :: es) (arcP a m) :=
  ⟨pa_imp (pa_cons he.pe hg.pa hs) fun σ H Q ⟨F, ρ, ea, q⟩ => ⟨F, ρ, ea, q.bind.mono fun h ρ1 F1 H1 st1 e1 q v hv => ⟨F1, ρ1, e1, q.bind.mono fun p ρ2 F2 H2 st2 e2 q vs a ws fa ha hd no ori hvs =>
    q.here e2 (v :: vs) a ws fa ha hd no (Ori.back st1 ori) ⟨hd_app (hv.mono st2.same), hvs⟩⟩⟩⟩
theorem d_arcL {es1 es : List Expr} {pos : Pos} {g : En → Rs (List D)} {m : En → Rs (List Hd)} (hg : DL X Z W es1 g) (hm : DR X Z W es m) (hs : StarOk X (.List es1 pos) es := by rfl) : DR1 X Z W (.List es1 pos :: es) (arcL g m) :=
  ⟨pa_imp (pa_cons (pe_lst hg.pa) hm.pa hs) fun σ H Q ⟨F, ρ, ea, q⟩ => ⟨F, ρ, ea, q.bind.mono fun xs ρ1 F1 H1 st1 e1 q vs hvs => by
    split at q
    · rename_i hl
      refine ⟨by rw [hvs.length]; exact Nat.le_trans hl (by rw [sizeLine_eq]; decide), fun p hp => ?_⟩
      have fp : F1 p = none := e1.sub.free hp
      have al : Al F1 H1 F1 (upd H1 p (.lst vs)) := Al.lay e1.sub hp _
      have e1' := e1.al al
      have n0 : ∀ i, ¬ OwnI σ ρ1 i p := fun i z => by obtain ⟨_, u, hu⟩ := e1.ownF z; rw [hp] at hu; cases hu
      have no : ¬ Ori (upd H1 p (.lst vs)) σ ρ1 p := fun z => by
        rcases z with ⟨i, z⟩ | z
        · exact n0 i z
        · rw [upd_same] at z; cases z
      refine ⟨F1, ρ1, e1', (q.from_al al).bind.mono fun hs ρ2 F2 H2 st2 e2 q ws hws => ?_⟩
      have fp2 : F2 p = none := by
        cases c : F2 p with
        | none => rfl
        | some u =>
          rcases st2.new p (by rw [c]; exact fun z => nomatch z) with y | y
          · exact absurd fp y
          · exact absurd y no
      exact q.here e2 (.ref p :: ws) p vs fp2 (st2.keep p _ upd_same n0) (hvs.mono st2.same) (fun i z => no (st2.own i p z)) (Ori.back st1 (.inr hp)) ⟨by
        show (σ ++ [some (V.ref p)])[ρ2.length]? = _
        rw [e2.len]; simp, hds_app hws⟩
    · exact q.elim⟩⟩
def callfL (n : Nat) (m : List S → Rs S) (g : En → Rs (List Hd × List D)) : En → Rs S := fun ρ => (g ρ).bind fun p ρ1 => Rs.opt (argsS (ρ1 ++ [.L p.2]) p.1) fun ss => if p.1.length = n ∧ (sls p.1).Nodup then (match m ss with
  | .ok s ss' => .ok s ((backS p.1 ss' (ρ1 ++ [.L p.2])).take ρ1.length)
  | .exc c xs ss' => .exc c xs ((backS p.1 ss' (ρ1 ++ [.L p.2])).take ρ1.length)
  | .stuck => .stuck) else .stuck
theorem callL_in {n : Nat} {m : List S → Rs S} {g : En → Rs (List Hd × List D)} : ∀ σ H Q, dF Z W (callfL n m g) σ H Q → tCallS (spD Z.K n m) (WE W) (dA1 Z W g) σ H Q := fun σ H Q ⟨F, ρ, ea, q⟩ => ⟨F, ρ, ea, by
  unfold callfL at q
  cases hg : g ρ with
  | stuck => rw [hg] at q; exact q
  | exc c xs ρ' => rw [hg] at q; exact q
  | ok p ρ1 =>
    rw [hg, Rs.bind_ok] at q
    intro F1 H1 st e1 vs a ws fa ha hd no ori hv
    obtain ⟨hs, xs⟩ := p
    obtain ⟨ss, es, q⟩ := q.opt
    by_cases cc : hs.length = n ∧ (sls hs).Nodup
    · rw [if_pos cc] at q
      have own : ∀ i b, OwnI (σ ++ [some (.ref a)]) (ρ1 ++ [.L xs]) i b → OwnI σ ρ1 i b ∨ (i = σ.length ∧ b = a) := fun i b ⟨h1, s, h2, h3⟩ => by
        by_cases c : i < σ.length
        · rw [List.getElem?_append_left c] at h1
          rw [List.getElem?_append_left (by rw [e1.len]; exact c)] at h2
          exact .inl ⟨h1, s, h2, h3⟩
        · have hi := (List.getElem?_eq_some_iff.mp h1).1
          rw [List.length_append] at hi
          simp at hi
          have ei : i = σ.length := by omega
          subst ei
          rw [List.getElem?_append_right (Nat.le_refl _)] at h1
          simp at h1
          exact .inr ⟨rfl, h1.symm⟩
      have e2 : EA Z F1 H1 (σ ++ [some (.ref a)]) (ρ1 ++ [.L xs]) := ⟨e1.sub, by simp [e1.len], fun i s h => by
        by_cases c : i < σ.length
        · rw [List.getElem?_append_left (by rw [e1.len]; exact c)] at h
          rw [List.getElem?_append_left c]
          exact e1.sl i s h
        · have hi := (List.getElem?_eq_some_iff.mp h).1
          rw [List.length_append, e1.len] at hi
          simp at hi
          have ei : i = σ.length := by omega
          subst ei
          rw [← e1.len, List.getElem?_append_right (Nat.le_refl _)] at h
          simp at h
          subst h
          rw [List.getElem?_append_right (Nat.le_refl _)]
          simp
          exact ⟨a, ws, rfl, fa, ha, hd⟩, fun i j b h1 h2 => by
        rcases own i b h1 with o1 | ⟨rfl, rfl⟩
        · rcases own j b h2 with o2 | ⟨rfl, rfl⟩
          · exact e1.dis i j b o1 o2
          · exact absurd o1 (no i)
        · rcases own j _ h2 with o2 | ⟨rfl, _⟩
          · exact absurd o2 (no j)
          · rfl⟩
      have st2 : Stp Z F H σ ρ F1 H1 (σ ++ [some (.ref a)]) (ρ1 ++ [.L xs]) := ⟨st.same, st.new, st.keep, fun i b h => by
        rcases own i b h with o | ⟨_, rfl⟩
        · exact st.own i b o
        · exact ori, fun i hi hl => by rw [List.getElem?_append_left hl], by simp⟩
      obtain ⟨l1, l2, _⟩ := args_get hv es
      refine ⟨by rw [l2]; exact cc.1, F1, ss, call_ea e2 hv es cc.2, ?_⟩
      have fin2 : ∀ F' H' ss', Stp ⟨Z.K, [], none⟩ F1 H1 (vs.map some) ss F' H' (vs.map some) ss' → EA ⟨Z.K, [], none⟩ F' H' (vs.map some) ss' → ∃ ρ' s0, backS hs ss' (ρ1 ++ [.L xs]) = ρ' ++ [s0] ∧ ρ'.length = σ.length ∧
          Stp Z F H σ ρ F' H' σ ρ' ∧ EA Z F' H' σ ρ' ∧ ∀ i b, OwnI σ ρ' i b → OwnI (σ ++ [some (.ref a)]) (ρ' ++ [s0]) i b := by
        intro F' H' ss' s3 e3
        obtain ⟨s4, e4⟩ := call_back e2 hv es cc.2 s3 e3
        have bl : (backS hs ss' (ρ1 ++ [.L xs])).length = σ.length + 1 := by rw [back_len]; simp [e1.len]
        obtain ⟨ρ', s0, eb⟩ : ∃ ρ' s0, backS hs ss' (ρ1 ++ [.L xs]) = ρ' ++ [s0] := by
          rcases List.eq_nil_or_concat (backS hs ss' (ρ1 ++ [.L xs])) with z | ⟨r, s0, z⟩
          · rw [z] at bl; cases bl
          · exact ⟨r, s0, by simpa using z⟩
        rw [eb] at s4 e4 bl
        have hl : ρ'.length = σ.length := by simpa using bl
        have s5 := st2.trans s4
        have low : ∀ i b, OwnI σ ρ' i b → OwnI (σ ++ [some (.ref a)]) (ρ' ++ [s0]) i b := fun i b ⟨h1, s, h2, h3⟩ => by
          have := (List.getElem?_eq_some_iff.mp h1).1
          have := (List.getElem?_eq_some_iff.mp h2).1
          exact ⟨by rw [List.getElem?_append_left (by assumption)]; exact h1, s, by rw [List.getElem?_append_left (by assumption)]; exact h2, h3⟩
        refine ⟨ρ', s0, eb, hl, ⟨s5.same, s5.new, s5.keep, fun i b h => s5.own i b (low i b h), fun _ _ _ => rfl, Nat.le_refl _⟩, ⟨e4.sub, hl, fun i s h => ?_, fun i j b h1 h2 => e4.dis i j b (low i b h1) (low j b h2)⟩, low⟩
        have hi := (List.getElem?_eq_some_iff.mp h).1
        have := e4.sl i s (by rw [List.getElem?_append_left hi]; exact h)
        rwa [List.getElem?_append_left (by rw [← hl]; exact hi)] at this
      revert q
      cases hm : m ss with
      | stuck => exact fun z => z.elim
      | exc c' ys ss1 =>
        intro q F' H' cls dd s3 e3 xa
        obtain ⟨ρ', s0, eb, hl, a1, a2, _⟩ := fin2 F' H' ss1 s3 e3
        have et : (backS hs ss1 (ρ1 ++ [.L xs])).take ρ1.length = ρ' := by rw [eb, e1.len, ← hl]; simp
        have q' : Sat Z W F H σ ρ (.exc c' ys ρ' : Rs S) fun s ρ' F' H' => ∀ (v : V), RA Z H σ ρ F' H' ρ' v s → Q v H' := by rw [← et]; exact q
        exact q' F' H' cls dd a1 a2 xa
      | ok s ss1 =>
        intro q F' H' s3 e3 v ra
        obtain ⟨ρ', s0, eb, hl, a1, a2, low⟩ := fin2 F' H' ss1 s3 e3
        have et : (backS hs ss1 (ρ1 ++ [.L xs])).take ρ1.length = ρ' := by rw [eb, e1.len, ← hl]; simp
        have q' : Sat Z W F H σ ρ (.ok s ρ' : Rs S) fun s ρ' F' H' => ∀ (v : V), RA Z H σ ρ F' H' ρ' v s → Q v H' := by rw [← et]; exact q
        have r2 := call_ra e2 hv es cc.2 e3 s3 (slZ (Z := ⟨Z.K, [], none⟩) rfl (.inl rfl) ra.1) ra.2
        exact q' F' H' a1 a2 v ⟨r2.1, fun so p hp => ⟨Ori.back st2 (r2.2 so p hp).1, fun i z => (r2.2 so p hp).2 i (eb ▸ low i p z)⟩⟩
    · rw [if_neg cc] at q; exact q.elim⟩
theorem d_callL {CT : CXT} {k j n : Nat} {x : Str} {m : List S → Rs S} {g : En → Rs (List Hd × List D)} {e : Expr} {es : List Expr} {p pos : Pos} (c : Cal X.prog X.w X.K X.mg X.base CT k x (spD Z.K n m)) (hr : Room j X.A) (hk : k ≤ j) (hx : ∀ σ, PassesAt CT X σ (WE W σ)) (hg : Gl X x) (ha : DR1 X Z W (e :: es) g)
    (hdb : NotDbg x := by decide) (he : StarOk X e es := by rfl) (hpl : NoStars X pos es := by rfl) :
    DF X Z W (.Call (.Name x p) (e :: es) [] pos) (callfL n m g) := ⟨pe_imp (pe_c c hr hk hx hg ha.pa hdb he hpl) callL_in⟩
end
/-! ### x or y, x and y, of any things -/
def orW (m k : En → Rs D) : En → Rs D := fun ρ => (m ρ).bind fun x ρ' => Rs.opt (truD x) fun b => if b = true then .ok x ρ' else k ρ'
def andW (m k : En → Rs D) : En → Rs D := fun ρ => (m ρ).bind fun x ρ' => Rs.opt (truD x) fun b => if b = true then k ρ' else .ok x ρ'
section
variable {Z : Zt} {W : WX} {X : Cx}
theorem d_orW {a b : Expr} {rest : List Expr} {pos : Pos} {m k : En → Rs D} (h : DE X Z W a m) (t : DE X Z W (.BoolOp .Or (b :: rest) pos) k) (hk : X.K = Z.K.K := by rfl) : DE X Z W (.BoolOp .Or (a :: b :: rest) pos) (orW m k) := ⟨pe_imp (pe_orT h.pe t.pe) fun σ H R ⟨F, ρ, ea, q⟩ => ⟨F, ρ, ea, q.bind.mono fun x ρ' F' H' st e p v hv => by
  obtain ⟨b, eb, p⟩ := p.opt
  refine ⟨b, hk ▸ truD_ok (hv.pk e.sub) eb, ?_⟩
  cases b with
  | true => rw [if_pos rfl] at p ⊢; exact p.here e v hv
  | false => rw [if_neg Bool.false_ne_true] at p ⊢; exact ⟨F', ρ', e, p⟩⟩⟩
theorem d_andW {a b : Expr} {rest : List Expr} {pos : Pos} {m k : En → Rs D} (h : DE X Z W a m) (t : DE X Z W (.BoolOp .And (b :: rest) pos) k) (hk : X.K = Z.K.K := by rfl) : DE X Z W (.BoolOp .And (a :: b :: rest) pos) (andW m k) := ⟨pe_imp (pe_andT h.pe t.pe) fun σ H R ⟨F, ρ, ea, q⟩ => ⟨F, ρ, ea, q.bind.mono fun x ρ' F' H' st e p v hv => by
  obtain ⟨b, eb, p⟩ := p.opt
  refine ⟨b, hk ▸ truD_ok (hv.pk e.sub) eb, ?_⟩
  cases b with
  | true => rw [if_pos rfl] at p ⊢; exact ⟨F', ρ', e, p⟩
  | false => rw [if_neg Bool.false_ne_true] at p ⊢; exact p.here e v hv⟩⟩
end
end

section
section
variable {P : Program} {w : World} {K : Type} [DecidableEq K] {κ : PySem.KeyKind P w K} {A : Around} {E : Value → Shared → Prop} {s : Shared} {a : Addr} {S : K → Bool} {n : Nat}
/-- no two entries have one key -/
def Apart (κ : PySem.KeyKind P w K) (e f : Int × Value) : Prop := ∀ k, κ.is k e.2 = true → ¬ κ.is k f.2 = true
theorem Apart.symm {e f : Int × Value} (h : Apart κ e f) : Apart κ f e := fun k h1 h2 => h k h2 h1
/-- what entries and table are: S says what is in, n at most so many -/
structure Lay (κ : PySem.KeyKind P w K) (es : Array (Int × Value)) (t : SetTable) (S : K → Bool) (n : Nat) : Prop where
  el : ElemsOf κ es.toList
  mem : ∀ k, S k = true ↔ ∃ e ∈ es.toList, κ.is k e.2 = true
  ap : es.toList.Pairwise (Apart κ)
  few : es.size ≤ n
  fit : t.fits es.size = true
  ris : Ris t.place.toList
  led : w.params.followText "set-order" = true ∨ t.led = true
/-- laid out anew -/
theorem Lay.relay {es : Array (Int × Value)} {t : SetTable} (L : Lay κ es t S n) (m : Nat) : Lay κ (relayAll t es m).1 (relayAll t es m).2.1 S n :=
  have p := relayAll_perm t es m
  { el := L.el.perm p, mem := fun k => (L.mem k).trans ⟨fun ⟨e, he, q⟩ => ⟨e, p.mem_iff.mpr he, q⟩, fun ⟨e, he, q⟩ => ⟨e, p.mem_iff.mp he, q⟩⟩, ap := (p.pairwise_iff Apart.symm).mpr L.ap
    few := by have := p.length_eq; rw [Array.length_toList, Array.length_toList] at this; have := L.few; omega
    fit := relayAll_fits t es m, ris := relayAll_ris t es m, led := L.led.imp id fun z => by rw [relayAll_led]; exact z }
/-- one more, that is not in yet -/
theorem Lay.more {es : Array (Int × Value)} {t : SetTable} (L : Lay κ es t S n) {k : K} {x : Value} (hk : κ.is k x = true) (hsc : x.scannable = true) (no : ∀ e ∈ es.toList, ¬ κ.is k e.2 = true) :
    Lay κ (layNew t es (κ.hash k) x).1 (layNew t es (κ.hash k) x).2.1 (fun j => S j || decide (j = k)) (n + 1) :=
  have p0 : (layNew t es (κ.hash k) x).1.toList.Perm (es.toList ++ [(κ.hash k, x)]) := by have := layNew_perm t es (κ.hash k) x; rwa [Array.toList_push] at this
  have p := p0.trans (List.perm_append_singleton _ _)
  { el := (L.el.push hk hsc).perm p0, mem := mem_push_iff hk L.mem p0
    ap := (p.pairwise_iff Apart.symm).mpr (List.pairwise_cons.mpr ⟨fun e he i q1 q2 => no e he (κ.inj x i k q1 hk ▸ q2), L.ap⟩)
    few := by have := p.length_eq; rw [Array.length_toList, List.length_cons, Array.length_toList] at this; have := L.few; omega
    fit := layNew_fits t es _ x, ris := layNew_ris t es _ x L.ris, led := L.led.imp id fun z => by rw [layNew_led]; exact z }
/-- the mark that all is by value taken off -/
theorem Lay.off {es : Array (Int × Value)} {t : SetTable} (L : Lay κ es t S n) (b : Bool) : Lay κ es (if b = true then t else { t with plain := false }) S n := by
  cases b with
  | true => exact L
  | false => exact { el := L.el, mem := L.mem, ap := L.ap, few := L.few, fit := SetTable.fits_plain_off L.fit, ris := L.ris, led := L.led }
/-- it is in already -/
theorem Lay.same {es : Array (Int × Value)} {t : SetTable} (L : Lay κ es t S n) {k : K} (hk : S k = true) : Lay κ es t (fun j => S j || decide (j = k)) (n + 1) where
  el := L.el
  mem := fun j => by
    rw [← L.mem j, Bool.or_eq_true]
    exact ⟨fun z => z.elim id fun e => (of_decide_eq_true e) ▸ hk, .inl⟩
  ap := L.ap
  few := Nat.le_succ_of_le L.few
  fit := L.fit
  ris := L.ris
  led := L.led
/-- the set at a -/
def SG (κ : PySem.KeyKind P w K) (h : Heap) (a : Addr) (S : K → Bool) (n : Nat) : Prop := ∃ o es ep t, h.get? a = some o ∧ o.ExactSet ∧ o.data = .set es ep t ∧ Lay κ es t S n
theorem SG.keep {h h' : Heap} (R : SG κ h a S n) (k : ∀ o, h.get? a = some o → h'.get? a = some o) : SG κ h' a S n := by
  obtain ⟨o, es, ep, t, ho, r⟩ := R
  exact ⟨o, es, ep, t, k o ho, r⟩
theorem SG.congr {h : Heap} {S' : K → Bool} (R : SG κ h a S n) (e : ∀ k, S' k = S k) : SG κ h a S' n := by
  have q : S' = S := funext e
  rw [q]; exact R
theorem SG.typeIs {h : Heap} (R : SG κ h a S n) : ∃ o, h.get? a = some o ∧ o.ExactSet := by
  obtain ⟨o, es, ep, t, ho, hx, _⟩ := R
  exact ⟨o, ho, hx⟩
/-- entries and table written to the set at a -/
theorem sg_write {o : Obj} {es es' : Array (Int × Value)} {ep : Nat} {t t' : SetTable} {Q : Unit → Shared → Prop} (ho : s.heap.get? a = some o) (hx : o.ExactSet) (hd : o.data = .set es ep t) (L : Lay κ es' t' S n) (hn : n < scanBound)
    (h : ∀ h' o', h'.get? a = some o' → o'.ExactSet → o'.data = .set es' (ep + 1) t' → Heap.SameBut a s.heap h' → SG κ h' a S n → Q () { s with heap := h' }) : wpAny (model P w) A (storeSet a es' t') Q E s := by
  have e := putSet_of es' t' hd
  have g : (s.heap.update a (Obj.putSet es' t')).get? a = some (Obj.putSet es' t' o) := Heap.get?_update_self _ ho (by rw [e]; rfl)
  rw [e] at g
  exact wpAny_storeSet_of ho hd (h _ _ g hx rfl (Heap.SameBut.update s.heap a _) ⟨_, es', ep + 1, t', g, hx, rfl, L⟩) (fits_of_scanBound (Nat.lt_of_le_of_lt L.few hn))
/-- a note, or none -/
theorem say_ok (b : Bool) {r : String} {s₁ : Shared} {Q : Unit → Shared → Prop} (q : Q () s₁) : wpAny (model P w) A (match b with | true => rule r | false => pure ()) Q E s₁ := by
  cases b
  · exact wpAny_pure q
  · exact wpAny_rule q
/-- written once, or once more laid out anew -/
theorem sg_tail {c : Bool} {g : Sem Unit} (hg : ∀ (s₁ : Shared) (Q' : Unit → Shared → Prop), Q' () s₁ → wpAny (model P w) A g Q' E s₁) {o : Obj} {es es1 es2 : Array (Int × Value)} {ep : Nat} {t t1 t2 : SetTable} (ho : s.heap.get? a = some o) (hx : o.ExactSet) (hd : o.data = .set es ep t)
    (L1 : Lay κ es1 t1 S n) (L2 : Lay κ es2 t2 S n) (hn : n < scanBound) {R : Option Bool → Shared → Prop} (hR : ∀ h', Heap.SameBut a s.heap h' → SG κ h' a S n → R (some true) { s with heap := h' }) :
    wpAny (model P w) A (storeSet a es1 t1 >>= fun _ => if c = true then g >>= fun _ => storeSet a es2 t2 >>= fun _ => pure (some true) else pure (some true)) R E s := by
  refine wpAny_bind (sg_write ho hx hd L1 hn fun h1 o1 g1 x1 d1 b1 r1 => ?_)
  cases c with
  | false => exact wpAny_pure (hR h1 b1 r1)
  | true => exact wpAny_bind (hg _ _ (wpAny_bind (sg_write (s := { s with heap := h1 }) g1 x1 d1 L2 hn fun h2 _ _ _ _ b2 r2 => wpAny_pure (hR h2 (b1.trans b2) r2))))
theorem sg_add {k : K} {x : Value} {Q : Bool → Shared → Prop} (hk : κ.is k x = true) (hsc : x.scannable = true) (R : SG κ s.heap a S n) (room : n + 1 < scanBound)
    (hQ : ∀ b h', Heap.SameBut a s.heap h' → SG κ h' a (fun j => S j || decide (j = k)) (n + 1) → Q b { s with heap := h' }) : wpAny (model P w) A (setAddHashed a x (κ.hash k)) Q E s := by
  obtain ⟨o, es, ep, t, ho, hx, hd, L⟩ := R
  have few := L.few
  unfold setAddHashed
  unfold setAddHashedIn
  refine wpAny_holding (wpAny_bind (wpAny_setState_of ho hd L.fit ?_))
  have scan : byScan x es = true := byScan_of hsc (by omega) L.el
  simp only [scan, if_true]
  unfold setAddByScan
  refine wpAny_bind (wpAny_bind (wpAny_rule (wpAny_bind (wpAny_setScan_of hk ho hd L.fit L.el ?_))))
  cases hi : es.toList.findIdx? (fun e => κ.is k e.2) with
  | some j =>
    obtain ⟨hj, pj, _⟩ := List.findIdx?_eq_some_iff_getElem.mp hi
    exact wpAny_pure (wpAny_pure (hQ _ s.heap (Heap.SameBut.refl a s.heap) ⟨o, es, ep, t, ho, hx, hd, L.same ((L.mem k).mpr ⟨_, List.getElem_mem hj, pj⟩)⟩))
  | none =>
    have L1 := L.more hk hsc fun e he q => by
      have z := List.findIdx?_eq_none_iff.mp hi e he
      rw [q] at z
      cases z
    dsimp only
    generalize layNew t es (κ.hash k) x = Y at L1 ⊢
    obtain ⟨es1, t1, wd, gave⟩ := Y
    refine wpAny_bind (say_ok gave ?_)
    dsimp only at L1 ⊢
    by_cases pl : t1.plain = true
    · rw [if_pos pl, hashByValue_scannable 8 hsc]
      exact wpAny_bind (wpAny_pure (sg_tail (κ := κ) (fun _ _ q => say_ok _ q) ho hx hd (L1.off _) ((L1.off _).relay _) room fun h' sb r => wpAny_pure (hQ _ h' sb r)))
    · rw [if_neg pl]
      exact wpAny_bind (wpAny_pure (sg_tail (κ := κ) (fun _ _ q => say_ok _ q) ho hx hd (L1.off true) ((L1.off true).relay _) room fun h' sb r => wpAny_pure (hQ _ h' sb r)))
theorem sg_add1 {k : K} {x : Value} {Q : Bool → Shared → Prop} (hk : κ.is k x = true) (hsc : x.scannable = true) (R : SG κ s.heap a S n) (room : n + 1 < scanBound)
    (hQ : ∀ b h', Heap.SameBut a s.heap h' → SG κ h' a (fun j => S j || decide (j = k)) (n + 1) → Q b { s with heap := h', toks := s.toks + 1 }) : wpAny (model P w) A (setAdd a x) Q E s :=
  wpAny_holding (wpAny_bind (κ.pyHash hk (sg_add (s := { s with toks := s.toks + 1 }) hk hsc R room hQ)))
theorem sg_call {k : K} {x : Value} {Q : Value → Shared → Prop} (hk : κ.is k x = true) (hsc : x.scannable = true) (R : SG κ s.heap a S n) (room : n + 1 < scanBound)
    (hQ : ∀ h', Heap.SameBut a s.heap h' → SG κ h' a (fun j => S j || decide (j = k)) (n + 1) → Q .none { s with heap := h', toks := s.toks + 1 }) : wpAny (model P w) A (call (.builtin "set.add") [.ref a, x]) Q E s := by
  obtain ⟨o, ho, hc, _⟩ := SG.typeIs R
  refine wpAny_call_entry F.slot_set_add (s := s) ⟨o, ho, hc⟩ F.entry_set_add ?_ (F.args_set_add_2 _ _)
  unfold Builtin.«set.add»
  unfold Builtin.Frozenset.oneOther Builtin.Frozenset.addrOf
  simp only [List.isEmpty_nil, bind_assoc]
  refine wpAny_bind (wpAny_pure (wpAny_bind (wpAny_pure (wpAny_bind (sg_add1 hk hsc R room fun b h' sb r => ?_)))))
  exact wpAny_pure ⟨Value.none, rfl, hQ h' sb r⟩
theorem led_or (w : World) : w.params.followText "set-order" = true ∨ (!w.params.followText "set-order") = true := by
  cases w.params.followText "set-order"
  · exact .inr rfl
  · exact .inl rfl
/-- a new set as the machine lays it -/
def set0 (w : World) : Obj := { cls := .type "set", dict := none, data := .set #[] 0 (.fresh 0 0 (!w.params.followText "set-order")) }
theorem sg_new {h : Heap} (ho : h.get? a = some (set0 w)) : SG κ h a (fun _ => false) 0 :=
  ⟨_, #[], 0, _, ho, ⟨rfl, rfl, rfl⟩, rfl, { el := fun e he => by simp at he, mem := fun k => by simp, ap := List.Pairwise.nil, few := Nat.le_refl _, fit := by rfl, ris := List.Pairwise.nil, led := led_or w }⟩
/-! ### set(xs) -/
/-- what is in the set once the first i are -/
def UpTo (κ : PySem.KeyKind P w K) (h : Heap) (a : Addr) (ks : List K) (i : Nat) : Prop := SG κ h a (fun k => decide (k ∈ ks.take i)) i
theorem upTo_step {h : Heap} {ks : List K} {i : Nat} {k : K} (hk : ks[i]? = some k) (R : SG κ h a (fun j => decide (j ∈ ks.take i) || decide (j = k)) (i + 1)) : UpTo κ h a ks (i + 1) := by
  refine SG.congr R fun j => ?_
  have : ks.take (i + 1) = ks.take i ++ [k] := by
    obtain ⟨hi, e⟩ := List.getElem?_eq_some_iff.mp hk
    rw [← e, List.take_append_getElem]
  rw [this]
  simp
/-- the loop that fills a set, opened -/
theorem fill_open {B I : Addr} {R : Result → Shared → Prop} (h : wpAny (model P w) A.in1 (Builtin.«set.update.loop» ⟨[.ref B, .ref I], []⟩) (fun fin s' => match fin with | .done f => R (.ok f) s' | .again c' => c'.quiet = true ∧ codeAny (model P w) A c' R s') (fun e s' => R (.error e) s') s) :
    codeAny (model P w) A (.builtin "set.update.loop" ⟨[.ref B, .ref I], []⟩) R s := codeAny_builtin F.entry_set_update_loop (Around.under_plainId (A := A) F.plain_set_update_loop _ ▸ h)
theorem sg_update {I : Addr} {fp wr : List Addr} {G : Array GenState → Array GenState → Prop} {n : Nat} {Pv : Nat → Value → Prop} {St : Nat → Shared → Prop} {R : Result → Shared → Prop} (V : WalksS P w A.in1 I fp wr G n Pv St) (B : Addr) (hB : B ∉ fp) (ks : List K) (hn : n = ks.length)
    (hs : n + 1 < scanBound) (hv : ∀ (i : Nat) (v : Value), Pv i v → ∃ k : K, ks[i]? = some k ∧ κ.is k v = true ∧ v.scannable = true) :
    ∀ (m i : Nat) (s : Shared), n - i = m → i ≤ n → St i s → UpTo κ s.heap B ks i → (∀ s', Moved (B :: wr) G s s' → UpTo κ s'.heap B ks n → R (.ok (.ret .none)) s') → codeAny (model P w) A (.builtin "set.update.loop" ⟨[.ref B, .ref I], []⟩) R s := by
  have hBw : B ∉ wr := fun z => hB (V.sub _ z)
  have up : ∀ b ∈ wr, b ∈ B :: wr := fun b hb => List.mem_cons_of_mem _ hb
  intro m
  induction m with
  | zero =>
    intro i s hm hi hst hS hR
    obtain rfl : i = n := by omega
    refine fill_open ?_
    show wpAny _ A.in1 (pyNext (.ref I) >>= _) _ _ s
    exact wpAny_bind (V.done s _ _ hst fun s' mv => wpAny_pure (hR s' (mv.mono up) (hS.keep fun o e => mv.heap B o hBw e)))
  | succ m ih =>
    intro i s hm hi hst hS hR
    have lt : i < n := by omega
    refine fill_open ?_
    show wpAny _ A.in1 (pyNext (.ref I) >>= _) _ _ s
    refine wpAny_bind (V.item i s _ _ lt hst fun v s' hp st' mv => ?_)
    obtain ⟨k, ek, hk, hsc⟩ := hv i v hp
    have hS' : UpTo κ s'.heap B ks i := hS.keep fun o e => mv.heap B o hBw e
    show wpAny _ A.in1 (holding [v] (setAdd B v) >>= _) _ _ s'
    refine wpAny_bind (wpAny_holding (sg_add1 hk hsc hS' (by omega) fun b h' sb r => ?_))
    have fr : ∀ c ∈ fp, c ≠ B := fun c hc z => hB (z ▸ hc)
    refine wpAny_pure ⟨plainId_quiet F.plain_set_update_loop _, ih (i + 1) _ (by omega) lt (V.frame _ s' _ _ st' (Nat.le_add_right _ _) fun c hc o e => by rw [sb.2 c (fr c hc)]; exact e) (upTo_step ek r) fun s2 mv2 S2 => hR s2 (Moved.trans V.gtrans ((mv.mono up).then_heap (Nat.le_add_right _ _) fun c o hc e => ?_) mv2) S2⟩
    rw [sb.2 c fun z => hc (by rw [z]; exact List.mem_cons_self)]; exact e
/-- a set filled from a list, from within its making -/
theorem sg_fill {l : Addr} {items : Array Value} (ks : List K) (hh : A.handled = none) (hl : s.heap.IsList l items) (hz : items.size = ks.length) (hv : ∀ (i : Nat) (v : Value), items[i]? = some v → ∃ k, ks[i]? = some k ∧ κ.is k v = true ∧ v.scannable = true) (hs : ks.length + 1 < scanBound)
    {Q : Fin → Shared → Prop} (h : ∀ (h' : Heap) (tk : Nat), UpTo κ h' s.heap.objs.size ks ks.length → (∀ b o, s.heap.get? b = some o → h'.get? b = some o) → Q (.done (.ret .none)) { s with heap := h', toks := tk }) :
    wpAny (model P w) A (Builtin.«set.__init__» ⟨[.ref s.heap.objs.size, .ref l], []⟩) Q E { s with heap := s.heap.push (set0 w) } := by
  have at0 : (s.heap.push (set0 w)).get? s.heap.objs.size = some (set0 w) := Heap.get?_push_size _ rfl
  obtain ⟨⟨oc, od, dt, osl⟩, hol, hcl, nl, hdl⟩ := hl
  simp only at hcl hdl
  subst hcl hdl
  have lt : l < s.heap.objs.size := Heap.lt_size hol
  have hl1 : (s.heap.push (set0 w)).IsList l items := ⟨_, Heap.get?_push_of_some _ hol, rfl, nl, rfl⟩
  have atl : (s.heap.push (set0 w)).get? l = some { cls := .type "list", dict := od, data := .seq items nl, slots := osl } := Heap.get?_push_of_some _ hol
  have s1 := F.sub_list_set
  have s2 := F.sub_list_frozenset
  have s3 : (Value.type "list" == Value.type "dict") = false := rfl
  unfold set0 at at0 atl
  unfold Builtin.«set.__init__» noKeywords
  unfold Builtin.Frozenset.updateFrom
  generalize hPI : pyIter = PI
  unfold set0
  wp_walk
  subst hPI
  show wpAny _ _ (pyIter (.ref l)) _ _ { s with heap := s.heap.push (set0 w) }
  refine wpAny_pyIter_list hl1 ?_
  refine wpAny_bind (wpAny_runValue ?_)
  have sz : (s.heap.push (set0 w)).objs.size = s.heap.objs.size + 1 := Heap.size_push ..
  have n1 : l ≠ (s.heap.push (set0 w)).objs.size := sz ▸ Nat.ne_of_lt (Nat.lt_succ_of_lt lt)
  have n2 : s.heap.objs.size ∉ [(s.heap.push (set0 w)).objs.size, l] := fun z => by
    rcases List.mem_cons.mp z with z | z
    · rw [sz] at z; exact absurd z (Nat.ne_of_lt (Nat.lt_succ_self _))
    · exact absurd (List.mem_singleton.mp z) (Nat.ne_of_gt lt)
  have V := (Walks.list (prog := P) (w := w) (A := A.in1) (by simp [hh]) _ l n1 items).toS
  refine sg_update (κ := κ) V s.heap.objs.size n2 ks hz (by rw [hz]; exact hs) hv (items.size - 0) 0 _ (by omega) (Nat.zero_le _) ⟨⟨_, Heap.get?_push_size _ rfl, rfl, rfl⟩, (hl1.push _)⟩ (sg_new (Heap.get?_push_of_some _ (by unfold set0; exact at0))) fun s' mv r => ?_
  obtain ⟨h', g', d', tk', os'⟩ := s'
  obtain rfl : g' = s.gens := mv.gens
  obtain rfl : d' = s.drawn := mv.drawn
  obtain rfl : os' = s.os := mv.os
  rw [hz] at r
  refine wpAny_pure (wpAny_pure (h h' tk' r fun b o e => mv.heap b o (fun z => ?_) (Heap.get?_push_of_some _ (Heap.get?_push_of_some _ e))))
  have lb := Heap.lt_size e
  rcases List.mem_cons.mp z with z | z
  · exact absurd z (Nat.ne_of_lt lb)
  · rw [List.mem_singleton, sz] at z
    exact absurd z (Nat.ne_of_lt (Nat.lt_succ_of_lt lb))
set_option maxHeartbeats 8000000 in
theorem sg_of {l : Addr} {items : Array Value} (ks : List K) {Q : Value → Shared → Prop} (hh : A.handled = none) (hl : s.heap.IsList l items) (hz : items.size = ks.length) (hv : ∀ (i : Nat) (v : Value), items[i]? = some v → ∃ k, ks[i]? = some k ∧ κ.is k v = true ∧ v.scannable = true) (hs : ks.length + 1 < scanBound)
    (h : ∀ (h' : Heap) (tk : Nat), UpTo κ h' s.heap.objs.size ks ks.length → (∀ b o, s.heap.get? b = some o → h'.get? b = some o) → Q (.ref s.heap.objs.size) { s with heap := h', toks := tk }) : wpAny (model P w) A (call (.type "set") [.ref l]) Q E s := by
  have C := F.called_set
  obtain ⟨c, tl, mro⟩ := C.mro
  have made := C.made
  have sub := C.sub
  have chk := F.typeCall_set_1 (.ref l)
  have u1 := C.notType
  have u2 := C.canCreate
  have wt := Around.under_plain (A := A) (weight_type_call_type "set" [.ref l] []) rfl
  refine wpAny_call (codeAny_of_tree ?_)
  show wpAny _ _ (callAny (.type "set") _) _ _ _
  refine wpAny_pure ⟨Code.quiet_builtin _ (by decide +kernel), ?_⟩
  refine codeAny_builtin F.entry_type_call ?_
  rw [wt]
  repeat (any_goals (first | assumption | wp_step))
  refine codeAny_mono (code_set_led1 (.ref l) (E := E) (Q₁ := fun obj s₁ => obj = .ref s.heap.objs.size ∧ s₁ = { s with heap := s.heap.push (set0 w) }) ⟨rfl, rfl⟩) fun r s₁ hr => ?_
  match r, hr with
  | .error e, hr => exact hr
  | .ok (.next), hr => exact hr.elim
  | .ok (.brk), hr => exact hr.elim
  | .ok (.cont), hr => exact hr.elim
  | .ok (.ret obj), hr =>
    obtain ⟨rfl, rfl⟩ := hr
    have hT : Shared.TypeIs { s with heap := s.heap.push (set0 w) } (.ref s.heap.objs.size) "set" := ⟨set0 w, Heap.get?_push_size _ rfl, rfl⟩
    have v1 := C.init.lookup
    have v2 := C.init.bind (.ref s.heap.objs.size)
    repeat (any_goals (first | assumption | wp_step))
    refine codeAny_mono (codeAny_call_builtin (R := wants (fun r s₂ => r = .none ∧ ∃ h' tk, s₂ = { s with heap := h', toks := tk } ∧ UpTo κ h' s.heap.objs.size ks ks.length ∧ (∀ b o, s.heap.get? b = some o → h'.get? b = some o)) E) C.init.plain F.entry_set_init (check_set_init_1 hT ?_)) fun r₂ s₂ hr₂ => ?_
    · exact sg_fill (κ := κ) ks (by simp [hh]) hl hz hv hs fun h' tk u k => ⟨rfl, h', tk, rfl, u, k⟩
    · match r₂, hr₂ with
      | .error e, hr₂ => exact hr₂
      | .ok (.next), hr₂ => exact hr₂.elim
      | .ok (.brk), hr₂ => exact hr₂.elim
      | .ok (.cont), hr₂ => exact hr₂.elim
      | .ok (.ret r), hr₂ =>
        obtain ⟨rfl, h', tk, rfl, u, k⟩ := hr₂
        repeat (any_goals (first | assumption | wp_step))
        exact h _ _ u k
end
end

section
section
variable {P : Program} {w : World} {A : Around} {E : Value → Shared → Prop} {s : Shared} {a : Addr} {S : Str → Bool} {n : Nat}
theorem strs_get {us : List Value} {xs : List Str} (h : StrsAre us xs) : ∀ (i : Nat) (v : Value), us[i]? = some v → ∃ k t, xs[i]? = some k ∧ v = .str k t := by
  induction h with
  | nil => intro i v e; simp at e
  | cons k t _ ih =>
    intro i v e
    cases i with
    | zero => simp at e; exact ⟨k, t, rfl, e.symm⟩
    | succ i => exact ih i v (by simpa using e)
theorem txt_of {es : List (Int × Value)} (h : ElemsOf (PySem.strKind P w) es) : ∀ e ∈ es, ∃ k t, e.2 = Value.str k t := fun e he => by
  obtain ⟨⟨k, hk, _⟩, _⟩ := h e he
  obtain ⟨t, e⟩ := Value.isStrOf_shape hk
  exact ⟨k, t, e⟩
theorem is_str (k : Str) (t : Tok) : (PySem.strKind P w).is k (.str k t) = true := by
  show Value.isStrOf k (.str k t) = true
  simp [Value.isStrOf]
/-- the entries' texts -/
def txts (es : Array (Int × Value)) : List Str := es.toList.map fun e => strOf e.2
theorem Lay.txt {es : Array (Int × Value)} {t : SetTable} (L : Lay (PySem.strKind P w) es t S n) : (txts es).Nodup ∧ ∀ k, k ∈ txts es ↔ S k = true := by
  refine ⟨List.pairwise_map.mpr (List.Pairwise.imp_of_mem (fun {e f} he hf ap q => ?_) L.ap), fun k => ?_⟩
  · obtain ⟨k, t, h1⟩ := txt_of L.el e he
    obtain ⟨k', t', h2⟩ := txt_of L.el f hf
    rw [h1, h2] at q
    obtain rfl : k = k' := q
    exact ap k (h1 ▸ is_str k t) (h2 ▸ is_str k t')
  · rw [L.mem k]
    refine ⟨fun h => ?_, fun ⟨e, he, q⟩ => ?_⟩
    · obtain ⟨e, he, q⟩ := List.mem_map.mp h
      obtain ⟨k', t', h1⟩ := txt_of L.el e he
      rw [h1] at q
      obtain rfl : k' = k := q
      exact ⟨e, he, h1 ▸ is_str k' t'⟩
    · obtain ⟨t', h1⟩ := Value.isStrOf_shape q
      exact List.mem_map.mpr ⟨e, he, by rw [h1] <;> rfl⟩
/-- a new list of texts, sorted -/
theorem sort_new {vs : List Value} {ss : List Str} {Q : Value → Shared → Prop} (hS : StrsAre vs ss) (hl : vs.length ≤ sizeLine)
    (h : ∀ h' (out : Array Value) (c : Nat) (ys : List Str), (∀ b o, s.heap.get? b = some o → h'.get? b = some o) → h'.get? s.heap.objs.size = some (seqObj "list" out c) → StrsAre out.toList ys → ys.Perm ss → sortedS ys = true → Q (.ref s.heap.objs.size) { s with heap := h' }) :
    wpAny (model P w) A (newList vs) (fun l s' => wpAny (model P w) A (call (.builtin "list.sort") [l]) (fun _ s'' => Q l s'') E s') E s := by
  refine wpAny_newList ?_ hl
  have at_ : (s.heap.push (seqObj "list" vs.toArray 0)).get? s.heap.objs.size = _ := Heap.get?_push_size _ rfl
  refine wpAny_call_entry slot_list_sort ⟨_, at_, rfl⟩ entry_list_sort (list_sort_treeKAny strKind_oneLt at_ hS.keysOf (fun v₁ v₂ rest e => keyKind_strs (e ▸ hS)) hl fun st' hp hs => ⟨_, rfl, ?_⟩) (args_list_sort _)
  obtain ⟨ys, y1, y2, y3⟩ := sorted_out_str hS hp hs
  obtain ⟨c, hc⟩ := sortedHeap_at (vs := vs) (out := (arrOf st').map (·.2)) at_
  refine h _ _ c ys (fun b u e => ?_) hc y1 y2 y3
  have lt := Heap.lt_size e
  exact (sortedHeap_old (Nat.ne_of_lt lt) (size_push' s.heap _ ▸ Nat.lt_succ_of_lt lt)).trans (Heap.get?_push_of_some _ e)
theorem sg_sorted {Q : Value → Shared → Prop} (R : SG (PySem.strKind P w) s.heap a S n) (hh : A.handled = none) (hn : n < scanBound)
    (hQ : ∀ s' p (out : Array Value) (c : Nat) (ys : List Str), (∀ b o, s.heap.get? b = some o → s'.heap.get? b = some o) → s'.gens = s.gens → s'.os = s.os → s.heap.objs.size ≤ p → s'.heap.get? p = some (seqObj "list" out c) →
      StrsAre out.toList ys → sortedS ys = true → ys.Nodup → (∀ k, k ∈ ys ↔ S k = true) → ys.length ≤ sizeLine → Q (.ref p) s') : wpAny (model P w) A (call (.builtin "sorted") [.ref a]) Q E s := by
  obtain ⟨o, es, ep, t, ho, hx, hd, L⟩ := R
  have few := L.few
  have hb : es.size < scanBound := by omega
  obtain ⟨nd, mem⟩ := L.txt
  have start := @Calls.call_function_entry
  refine start kind_sorted plain_sorted entry_sorted (args_sorted1 _) ?_
  unfold Builtin.«sorted»
  show wpAny _ _ (checkCount "sorted" 1 1 _ >>= _) _ _ s
  refine wpAny_bind (wpAny_pure (wpAny_bind (collect_set (A := A.in1) hh ⟨o, ho, hx.1, hd⟩ L.fit hb L.ris L.led fun s1 vs k1 hz g1 o1 pm => ?_)))
  have hvl : vs.length ≤ sizeLine := by rw [pm.length_eq, List.length_map, Array.length_toList]; exact fits_of_scanBound hb
  have hS : StrsAre vs (vs.map strOf) := strsAre_map vs fun v hv => by
    obtain ⟨e, he, rfl⟩ := List.mem_map.mp (pm.mem_iff.mp hv)
    exact txt_of L.el e he
  have pk : (vs.map strOf).Perm (txts es) := by
    have q := pm.map strOf
    rw [List.map_map] at q
    exact q
  refine wpAny_bind (wpAny_mono (sort_new (A := A.in1) (E := E) (s := s1) (Q := fun l s' => wpAny (model P w) A.in1 (pure (Fin.done (.ret l))) (fun fin s' => ∃ v, fin = .done (.ret v) ∧ Q v s') E s') hS hvl fun h' out c ys k h1 h2 h3 h4 => ?_) (fun l s' q => wpAny_bind (wpAny_holding (wpAny_mono q (fun _ _ q => q) fun _ _ q => q))) fun _ _ q => q)
  have py := h3.trans pk
  exact wpAny_pure ⟨_, rfl, hQ _ _ out c ys (fun b u e => k b u (k1 b u e)) g1 o1 hz h1 h2 h4 (py.nodup_iff.mpr nd) (fun k => py.mem_iff.trans (mem k)) (by rw [h3.length_eq, List.length_map]; exact hvl)⟩
end
/-- a set of texts as a tracked thing -/
def SgO (P : Program) (w : World) (a : Addr) (S : Str → Bool) (n : Nat) : HO := .ext fun h => SG (PySem.strKind P w) h a S n
theorem sgO_new {P : Program} {w : World} {H : Hp} {h : Heap} {a : Addr} {S : Str → Bool} {n : Nat} (R : SG (PySem.strKind P w) h a S n) : ObjOk P w H h a (SgO P w a S n) := by
  obtain ⟨o, ho, _⟩ := SG.typeIs R
  exact ⟨R, ⟨o, ho⟩, fun h1 h2 p k => SG.keep p k⟩
section
variable {X : Cx}
theorem sgO_get {pins : List (Addr × Obj)} {σ : L2.St} {H : Hp} {s : Shared} {a : Addr} {S : Str → Bool} {n : Nat} (I : Inv X pins σ H s) (ha : H a = some (SgO X.prog X.w a S n)) : SG (PySem.strKind X.prog X.w) s.heap a S n := (I.hok a _ ha).1
/-- set(xs) of texts -/
def rSgOf (K : PySem.W.Frag) (P : Program) (w : World) : List V → Hp → VK → Prop := fun xs H Q => ∃ (l : Addr) (ks : List Str), xs = [V.ref l] ∧ SqL K H l (ks.map V.str) ∧ ks.length + 1 < scanBound ∧ ∀ p, H p = none → Q (.ref p) (upd H p (SgO P w p (fun k => decide (k ∈ ks)) ks.length))
theorem cr_sgOf (hc : X.calm = true) : CallR X (.type "set") (rSgOf X.K X.prog X.w) := by
  intro pins s σ H xs us Q I r h
  obtain ⟨l, ks, rfl, hl, hz, q⟩ := h
  rw [Vals.ref1 r]
  obtain ⟨its, rv, pl, _⟩ := I.list hl
  have free : H s.heap.objs.size = none := I.hok.fresh (Nat.le_refl _)
  have hS := rv.strs
  have hlen : its.length = ks.length := by have z := rv.length; rw [List.length_map] at z; exact z.symm
  refine sg_of (κ := PySem.strKind X.prog X.w) ks (I.ok.hd hc) pl.isList (by simpa using hlen) (fun i v hv => ?_) hz fun h' tk u k => ?_
  · have hv' : its[i]? = some v := by simpa using hv
    obtain ⟨k, t, ek, e⟩ := strs_get hS i v hv'
    exact ⟨k, ek, by rw [e]; exact is_str _ _, by rw [e]; rfl⟩
  · have u' : SG (PySem.strKind X.prog X.w) h' s.heap.objs.size (fun k => decide (k ∈ ks)) ks.length := SG.congr u fun k => by rw [List.take_length]
    exact ⟨.ref s.heap.objs.size, upd H s.heap.objs.size (SgO X.prog X.w s.heap.objs.size (fun k => decide (k ∈ ks)) ks.length), I.laid (t' := tk) k (Nat.le_refl _) (sgO_new u'), rfl, q _ free⟩
/-- sorted of a set of texts -/
def rSgSorted (P : Program) (w : World) : List V → Hp → VK → Prop := fun vs H Q => ∃ (a : Addr) (S : Str → Bool) (n : Nat), vs = [V.ref a] ∧ H a = some (SgO P w a S n) ∧ n < scanBound ∧
  ∀ (ys : List Str) (p : Addr), sortedS ys = true → ys.Nodup → (∀ k, k ∈ ys ↔ S k = true) → H p = none → Q (.ref p) (upd H p (.lst (ys.map V.str)))
theorem cr_sgSorted (hc : X.calm = true) : CallR X (.builtin "sorted") (rSgSorted X.prog X.w) := by
  intro pins s σ H vs us Q I r h
  obtain ⟨a, S, n, rfl, ha, hn, q⟩ := h
  rw [Vals.ref1 r]
  refine sg_sorted (sgO_get I ha) (I.ok.hd hc) hn fun s' p out c ys k g o hp hg hout y3 nd mem hz => ?_
  have hn : H p = none := I.hok.fresh hp
  have hlen : (ys.map V.str).length ≤ sizeLine := by rw [List.length_map]; exact hz
  obtain ⟨h', g', d', tk', os'⟩ := s'
  obtain rfl : g' = s.gens := g
  obtain rfl : os' = s.os := o
  exact ⟨.ref p, upd H p (.lst (ys.map V.str)), I.call (ch := []) (Un.laid k hp hn) (I.hok.laid k hp ⟨hlen, out.toList, c, vals_of_strs hout, hg⟩) I.bare (fun _ z => nomatch z), rfl, q ys p y3 nd mem hn⟩
/-- an item more -/
theorem sgO_add {pins : List (Addr × Obj)} {σ : L2.St} {H : Hp} {s : Shared} {E : Value → Shared → Prop} {B : Addr} {S : Str → Bool} {n : Nat} {k : Str} {v : Value} {Q : Value → Shared → Prop} (I : Inv X pins σ H s) (hB : H B = some (SgO X.prog X.w B S n)) (room : n + 1 < scanBound) (hv : RelV (.str k) v)
    (h : ∀ s', Inv X pins σ (upd H B (SgO X.prog X.w B (fun j => S j || decide (j = k)) (n + 1))) s' → Q .none s') : wpAny (model X.prog X.w) X.A (call (.builtin "set.add") [.ref B, v]) Q E s := by
  obtain ⟨t, rfl⟩ := hv
  refine sg_call (κ := PySem.strKind X.prog X.w) (k := k) (is_str k t) rfl (sgO_get I hB) room fun h' sb new => ?_
  obtain ⟨o, ho, _⟩ := SG.typeIs new
  exact h _ (I.write (e := B) (t' := s.toks + 1) (by rw [hB]; trivial) (.inl rfl) (fun b u hb hu => (sb.2 b hb).trans hu) ⟨o, ho⟩ (sgO_new new))
end
end

section
/-! ### the texts in order, each once -/
def leS (a b : Str) : Prop := a.cps.toList ≤ b.cps.toList
theorem leS_trans {a b c : Str} (h : leS a b) (k : leS b c) : leS a c := List.le_trans h k
theorem leS_anti {a b : Str} (h : leS a b) (k : leS b a) : a = b := by
  have e : a.cps.toList = b.cps.toList := List.le_antisymm h k
  cases a; cases b
  simp only [Str.mk.injEq]
  exact Array.toList_inj.mp e
theorem leS_of {a b : Str} (h : ltCps b.cps.toList a.cps.toList = false) : leS a b := by
  rw [ltCps_eq] at h
  exact List.not_lt.mp (of_decide_eq_false h)
theorem pw_rising : ∀ (l : List Str) (p : Str), risingS p l = true → (p :: l).Pairwise leS
  | [], p, _ => List.pairwise_singleton _ _
  | x :: r, p, h => by
    have h : (!ltCps x.cps.toList p.cps.toList && risingS x r) = true := h
    rw [Bool.and_eq_true] at h
    have h1 : leS p x := leS_of (by simpa using h.1)
    have h2 := pw_rising r x h.2
    refine List.pairwise_cons.mpr ⟨fun y hy => ?_, h2⟩
    rcases List.mem_cons.mp hy with e | e
    · rw [e]; exact h1
    · exact leS_trans h1 ((List.pairwise_cons.mp h2).1 y e)
theorem pw_sorted {l : List Str} (h : sortedS l = true) : l.Pairwise leS := by
  cases l with
  | nil => exact List.Pairwise.nil
  | cons x r => exact pw_rising r x h
def InOrder (ks ys : List Str) : Prop := sortedS ys = true ∧ ys.Nodup ∧ ∀ k, k ∈ ys ↔ k ∈ ks
theorem inOrder_one {ks ys zs : List Str} (h : InOrder ks ys) (k : InOrder ks zs) : ys = zs :=
  List.Perm.eq_of_pairwise (le := leS) (fun a b _ _ => leS_anti) (pw_sorted h.1) (pw_sorted k.1) ((List.perm_ext_iff_of_nodup h.2.1 k.2.1).mpr fun x => (h.2.2 x).trans (k.2.2 x).symm)
open Classical in
noncomputable def sortU (ks : List Str) : List Str := if h : ∃ ys, InOrder ks ys then choose h else []
theorem sortU_is {ks ys : List Str} (h : InOrder ks ys) : sortU ks = ys := by
  unfold sortU
  have e : ∃ ys, InOrder ks ys := ⟨ys, h⟩
  rw [dif_pos e]
  exact inOrder_one (Classical.choose_spec e) h
theorem sortU_congr {ks js : List Str} (h : ∀ k, k ∈ ks ↔ k ∈ js) : sortU ks = sortU js := by
  have : InOrder ks = InOrder js := by
    funext ys
    unfold InOrder
    simp only [h]
  unfold sortU
  rw [this]
/-! ### the comprehension on the machine -/
section
variable {X : Cx}
def tSg (P : Program) (w : World) (wi : TI) (g : TG) (tt : TT) (te : TE) (vs : List Nat) : TE := fun σ H Q => wi σ H fun J H1 => ∀ B, H1 B = none → ∃ Wn : Nat → Nat → Hp → Prop, (∃ m, Wn 0 m (upd H1 B (SgO P w B (fun _ => false) 0))) ∧ ∀ i m H, Wn i m H →
  (J.stop i H ∧ Q (.ref B) H) ∨ (J.go i H ∧ ∃ Nx : Hp → Prop, (∀ H', Nx H' → ∃ m', m' < m ∧ Wn (i + 1) m' H') ∧ ∀ x H', J.yld i H x H' → g x (wipe σ vs) H' fun σ2 H2 => wipe σ2 vs = wipe σ vs ∧ tt σ2 H2 fun b H3 =>
    if b = true then te σ2 H3 fun y H4 => ∃ (k : Str) (S : Str → Bool) (n : Nat), y = .str k ∧ H4 B = some (SgO P w B S n) ∧ n + 1 < scanBound ∧ Nx (upd H4 B (SgO P w B (fun j => S j || decide (j = k)) (n + 1))) else Nx H3)
abbrev Each (X : Cx) (scope : Scope) (J : Cx → Prop) : Prop := ∀ (s : Shared) (H : Hp) (C : Addr) (cl : List (PySem.Str × Addr)) (fp : List Addr), J (X.blk s H scope (compEnvC scope cl C X.env) fp)
/-- within the block of a comprehension, between two turns -/
structure Within (X : Cx) (s3 : Shared) (H3 : Hp) (scope : Scope) (ce : Env) (fp : List Addr) (tn : Nat → Heap → Prop) (ws : L2.St) (i : Nat) (H : Hp) (s : Shared) : Prop where
  inv : Inv (X.blk s3 H3 scope ce fp) [] ws H s
  now : tn i s.heap
  off : ∀ b ∈ fp, H b = none
section
variable {s3 s s' : Shared} {H3 H H' : Hp} {scope : Scope} {ce : Env} {fp : List Addr} {tn : Nat → Heap → Prop} {ws σ' : L2.St} {i : Nat} {own : List (PySem.Str × Nat)} {pins : List (Addr × Obj)} {σ : L2.St}
/-- the walk's own objects may turn -/
theorem own_fp (I : Inv (X.blk s3 H3 scope ce fp) [] σ' H' s') (off : ∀ b ∈ fp, H' b = none) : ∀ b ∈ fp, FpOk (X.blk s3 H3 scope ce fp) [] H' b := fun b hb => by
  have e := I.ok.exf b hb
  refine ⟨off b hb, e.1, I.ok.exfs b hb, .inl hb, fun x c q => e.2 x c q, fun p hp => ?_⟩
  have hp : p ∈ ([] : List (Addr × Obj)) ++ [] := hp
  cases hp
/-- a turn is over: the slots of the block are wiped -/
theorem turn_over {tg : Expr} {J : It} {it : Addr} {h7 : Heap} (T : Turn X.prog X.w X.K tg J fp it tn) (now : tn (i + 1) h7) (I : Inv (X.blk s3 H3 scope ce fp) ([] ++ pinsAt fp h7) σ' H' s') (hw : wipe σ' (own.map (·.2)) = wipe σ (own.map (·.2))) :
    Within X s3 H3 scope ce fp tn (wipe σ (own.map (·.2))) (i + 1) H' s' := by
  have stay : ∀ b ∈ fp, ∃ o, h7.get? b = some o ∧ s'.heap.get? b = some o ∧ H' b = none := fun b hb => by
    obtain ⟨o, e, _⟩ := T.obj _ _ now b hb
    have z := I.pin (b, o) (List.mem_append_right _ (List.mem_append_right _ (mem_pinsAt hb e)))
    exact ⟨o, e, z.1, z.2.1⟩
  refine ⟨(I.unpinned (pins := [])).weak (by rw [← hw, wipe_length]) fun j v e => (wipe_some (hw.symm ▸ e)).1, T.keep _ _ _ now fun b hb o e => ?_, fun b hb => ?_⟩
  · obtain ⟨o', e1, e2, _⟩ := stay b hb
    rw [e1] at e
    exact e ▸ e2
  · exact (stay b hb).elim fun _ q => q.2.2
/-- out of the block again -/
theorem step_out (I3 : Inv X pins σ H3 s3) (f3 : ∀ b ∈ fp, FpOk X pins H3 b) (cL : ce.locals = s3.heap.objs.size) (I : Inv (X.blk s3 H3 scope ce fp) [] ws H s) : Inv X pins σ H s ∧ (∃ m, s.heap.Ns s3.heap.objs.size m) ∧ FpOk X pins H s3.heap.objs.size := by
  have free : H ce.locals = none := I.free
  obtain ⟨m, ns, _⟩ := I.loc
  have ns : s.heap.Ns ce.locals m := ns
  refine ⟨I3.call' (ch := fp) I.os I.base I.hok I.bare fun b hb => ?_, ⟨m, cL ▸ ns⟩, I3.fpOk (Nat.le_refl _) (cL ▸ free)⟩
  obtain ⟨_, g1, g2, g3, g4, g5⟩ := f3 b hb
  exact ⟨g3, g1, g4, g5⟩
/-- the turns of the comprehension -/
theorem sg_turns {elt tg iter : Expr} {ifs : List Expr} {pos : Pos} {g : TG} {tt : TT} {te : TE} {J : It} {it B : Addr} {Q : VK} {R : Result → Shared → Prop} {Wn : Nat → Nat → Hp → Prop} (hc : X.calm = true) (T : Turn X.prog X.w X.K tg J fp it tn)
    (pg : PG (X.blk s3 H3 scope ce fp) tg g) (pt : PTs (X.blk s3 H3 scope ce fp) ifs tt) (pe : PE (X.blk s3 H3 scope ce fp) elt te)
    (turn : ∀ i m H, Wn i m H → (J.stop i H ∧ Q (.ref B) H) ∨ (J.go i H ∧ ∃ Nx : Hp → Prop, (∀ H', Nx H' → ∃ m', m' < m ∧ Wn (i + 1) m' H') ∧ ∀ x H', J.yld i H x H' → g x (wipe σ (own.map (·.2))) H' fun σ2 H2 => wipe σ2 (own.map (·.2)) = wipe σ (own.map (·.2)) ∧ tt σ2 H2 fun b H3 =>
      if b = true then te σ2 H3 fun y H4 => ∃ (k : Str) (S : Str → Bool) (n : Nat), y = .str k ∧ H4 B = some (SgO X.prog X.w B S n) ∧ n + 1 < scanBound ∧ Nx (upd H4 B (SgO X.prog X.w B (fun j => S j || decide (j = k)) (n + 1))) else Nx H3))
    (leave : ∀ H s ws, Q (.ref B) H → Inv (X.blk s3 H3 scope ce fp) [] ws H s → R (.ok .next) s) (m : Nat) (i : Nat) (w0 : Wn i m H) (U : Within X s3 H3 scope ce fp tn (wipe σ (own.map (·.2))) i H s) :
    codeAny (model X.prog X.w) X.A (.compLoop (.SetComp elt [⟨tg, iter, ifs, 0⟩] scope pos) 0 (.ref it) (.ref B) ce) R s := by
  refine PpSet.compLoopS_any (fun n s' => ∃ i H', Wn i n H' ∧ Within X s3 H3 scope ce fp tn (wipe σ (own.map (·.2))) i H' s') ?_ m ⟨i, H, w0, U⟩
  rintro n s5 ⟨i, H5, w5, U5⟩
  rcases turn i n H5 w5 with ⟨stop, qq⟩ | ⟨go, Nx, less, step⟩
  · exact thnF (T.done (X.blk s3 H3 scope ce fp) rfl rfl rfl hc i [] s5 _ H5 (fun _ _ => False) U5.inv (own_fp U5.inv U5.off) U5.now stop) fun r s6 ⟨hr, I6⟩ => hr ▸ leave H5 s6 _ qq I6
  · refine thnF (T.item (X.blk s3 H3 scope ce fp) rfl rfl rfl hc i [] s5 _ H5 (fun _ _ => False) U5.inv (own_fp U5.inv U5.off) U5.now go) fun r s6 ⟨u, hr, more⟩ => ?_
    subst hr
    refine thnF more fun _ s7 ⟨x, H7, I7, r7, y7, now, off⟩ => ?_
    have pinned := I7.pinned (own_fp I7 off) (T.obj _ _ now)
    have next : ∀ {σ8 : L2.St} {s' : Shared} {H' : Hp}, wipe σ8 (own.map (·.2)) = wipe σ (own.map (·.2)) → Inv (X.blk s3 H3 scope ce fp) ([] ++ pinsAt fp s7.heap) σ8 H' s' → Nx H' → ∃ m, m < n ∧ ∃ i H', Wn i m H' ∧ Within X s3 H3 scope ce fp tn (wipe σ (own.map (·.2))) i H' s' := fun hw I nx => by
      obtain ⟨m', lt, w'⟩ := less _ nx
      exact ⟨m', lt, i + 1, _, w', turn_over T now I hw⟩
    refine thnF (pg.run _ s7 _ H7 x u _ pinned r7 (step x H7 y7)) fun _ s8 ⟨σ8, H8, I8, hw8, q8⟩ => thnF (pt.run _ s8 σ8 H8 _ I8 q8) fun b s9 ⟨H9, I9, q9⟩ => ?_
    cases b with
    | false => exact next hw8 I9 ((if_neg Bool.false_ne_true).mp q9)
    | true =>
      have q9 := (if_pos rfl).mp q9
      refine thnF (pe.run _ s9 σ8 H9 _ I9 q9) fun z s10 ⟨yv, H10, I10, r10, k, S0, n0, ey, at_, few, nx⟩ => ?_
      subst ey
      exact sgO_add (X := X.blk s3 H3 scope ce fp) I10 at_ few r10 fun s11 I11 => next hw8 I11 nx
end
theorem pe_sg {elt tg iter : Expr} {ifs : List Expr} {scope : Scope} {own : List (PySem.Str × Nat)} {pos : Pos} {wi : TI} {g : TG} {tt : TT} {te : TE} (hc : X.calm = true) (hN : X.N.Nodup) (hi : PI X tg iter wi) (ok : BlkOk X.N X.env.scope scope own)
    (hg : Each X scope fun X => PG X tg g) (ht : Each X scope fun X => PTs X ifs tt) (he : Each X scope fun X => PE X elt te) (hs : ∀ x, foldedSetIterable iter X.env x = pure x) : PE X (.SetComp elt [⟨tg, iter, ifs, 0⟩] scope pos) (tSg X.prog X.w wi g tt te (own.map (·.2))) := by
  refine ⟨fun pins s σ H Q I h => ?_⟩
  rw [PpSet.eval_SetComp]
  have cells : ∀ y ∈ scope.names, y.2 = .free → ∃ c, X.env.cells.lookup y.1 = some c := fun y hy e => I.ok.has _ (ok.free y hy e)
  refine wpAny_comprehension_free (use := none) rfl hs (closure_ok cells) ok.kind (fun y hy e => by rw [ok.uniq y hy, e]) (thn (hi.run pins s σ H _ I h) fun xv s1 hx => thn hx fun itv s2 walk => ?_)
  obtain ⟨it, fp, tn, J, H2, rfl, I2, T, now, mine, q⟩ := walk
  have young : ∀ b ∈ fp, b < s2.heap.objs.size := fun b hb => (T.obj _ _ now b hb).elim fun o e => Heap.lt_size e.1
  obtain ⟨Wn, ⟨m0, w0⟩, turn⟩ := q s2.heap.objs.size (I2.hok.fresh (Nat.le_refl _))
  refine PpSet.newSet_ok (newEnv_comp ?_)
  have at0 : (s2.heap.push (set0 X.w)).get? s2.heap.objs.size = some (set0 X.w) := Heap.get?_push_size _ rfl
  have I3 : Inv X pins σ (upd H2 s2.heap.objs.size (SgO X.prog X.w s2.heap.objs.size (fun _ => false) 0)) { s2 with heap := s2.heap.push (set0 X.w) } := I2.laid (t' := s2.toks) (fun b o e => Heap.get?_push_of_some _ e) (Nat.le_refl _) (sgO_new (sg_new at0))
  have f3 : ∀ b ∈ fp, FpOk X pins (upd H2 s2.heap.objs.size (SgO X.prog X.w s2.heap.objs.size (fun _ => false) 0)) b ∧ b < (s2.heap.push (set0 X.w)).objs.size := fun b hb => by
    have lt := young b hb
    exact ⟨⟨(upd_ne (Nat.ne_of_lt lt)).trans (mine b hb).1, (mine b hb).2⟩, by rw [Heap.size_push]; exact Nat.lt_succ_of_lt lt⟩
  have I4 := block_start I3 ok hN f3
  have U : Within X _ _ scope _ fp tn _ 0 _ _ := ⟨I4, T.keep _ _ _ now fun b _ o e => pushCells_keeps _ _ _ _ (Heap.get?_push_of_some _ (Heap.get?_push_of_some _ e)), fun b hb => (f3 b hb).1.1⟩
  have all := sg_turns (elt := elt) (iter := iter) (pos := pos) (R := compPost (model X.prog X.w) X.A X.xe none (EP X pins σ Q) (.ref s2.heap.objs.size) (s2.heap.push (set0 X.w)).objs.size) hc T (hg _ _ _ _ _) (ht _ _ _ _ _) (he _ _ _ _ _) turn (fun H s ws hq I => by
    obtain ⟨J1, ⟨m, ns⟩, g0, g1, g2, g3, g4, g5⟩ := step_out I3 (fun b hb => (f3 b hb).1) rfl I
    exact ⟨m, ns, fun h'' sb => ⟨.ref s2.heap.objs.size, H, J1.turned (t' := s.toks) (fun b o hb e => (sb.2 b hb).trans e) g0 g1 g3 g4 g5, rfl, hq⟩⟩) m0 0 w0 U
  exact PpSet.codeAny_compStart_set all (T.self X.A 0 _ _ _ U.now all)
end
end

section
def dZ (P : Program) (w : World) (Z : Zt) (W : WX) (m : En → Rs (List Str)) : TE := fun σ H Q => ∃ F ρ, EA Z F H σ ρ ∧ Sat Z W F H σ ρ (m ρ) fun ks ρ' F' H' => ∀ p S n H2, Al F' H' F' H2 → H2 p = some (SgO P w p S n) → (∀ k, S k = true ↔ k ∈ ks) → n + 1 < scanBound → Q (.ref p) H2
structure DZ (X : Cx) (Z : Zt) (W : WX) (e : Expr) (m : En → Rs (List Str)) : Prop where
  pe : PE X e (dZ X.prog X.w Z W m)
noncomputable def srtZ (g : En → Rs (List Str)) : En → Rs S := fun ρ => (g ρ).bind fun ks ρ' => .ok (.L ((sortU ks).map .str)) ρ'
def setF : List D → Option (List Str)
  | [.lst xs] => (strsOf xs).bind fun ks => if ks.length < 4000 then some ks else none
  | _ => none
theorem setF_of {xs : List D} {ks : List Str} (h : setF xs = some ks) : ∃ ys, xs = [.lst ys] ∧ strsOf ys = some ks ∧ ks.length < 4000 := by
  cases xs with
  | nil => cases h
  | cons x r =>
    cases x <;> try cases h
    cases r with
    | cons _ _ => cases h
    | nil =>
      obtain ⟨js, ej, ek⟩ := Option.bind_eq_some_iff.mp h
      by_cases c : js.length < 4000
      · rw [if_pos c] at ek; cases ek; exact ⟨_, rfl, ej, c⟩
      · rw [if_neg c] at ek; cases ek
def setZ (g : En → Rs (List Hd)) : En → Rs (List Str) := fun ρ => (g ρ).bind fun hs ρ' => Rs.opt (resAll ρ' hs) fun xs => Rs.opt (setF xs) fun ks => .ok ks ρ'
def scG (m : En → Rs (List D)) (t : Tg) (vs : List Nat) (c : En → Rs Bool) (e : En → Rs D) : En → Rs (List Str) := fun ρ => (m ρ).bind fun its ρ1 => if its.length ≤ 4000 then (lcL t vs c e its [] (wipeE ρ1 vs)).cb fun ys ρ2 => Rs.opt (strsOf ys) fun ks => .ok ks (resE ρ1 ρ2 vs) else .stuck
theorem scG_of {m : En → Rs (List D)} {t : Tg} {vs : List Nat} {c : En → Rs Bool} {e : En → Rs D} {ρ ρ' : En} {ys : List D} {ks : List Str} (h : lcG m t vs c e ρ = .ok (.L ys) ρ') (hs : strsOf ys = some ks) (hl : ∀ its ρ1, m ρ = .ok its ρ1 → its.length ≤ 4000) : scG m t vs c e ρ = .ok ks ρ' := by
  unfold lcG at h
  unfold scG
  cases hm : m ρ with
  | stuck => rw [hm] at h; cases h
  | exc => rw [hm] at h; cases h
  | ok its ρ1 =>
    have l1 := hl its ρ1 hm
    rw [hm, Rs.bind_ok, if_pos (by omega)] at h
    rw [Rs.bind_ok, if_pos l1]
    cases hr : lcL t vs c e its [] (wipeE ρ1 vs) with
    | stuck => rw [hr] at h; cases h
    | exc => rw [hr] at h; cases h
    | ok zs ρ2 =>
      rw [hr, Rs.cb_ok] at h
      injection h with h1 h2
      injection h1 with h1
      subst h1; subst h2
      rw [Rs.cb_ok, hs, Rs.opt_some]
theorem lcL_pre {t : Tg} {vs : List Nat} {c : En → Rs Bool} {e : En → Rs D} : ∀ (its acc : List D) (ρ : En) (ys : List D) (ρe : En), lcL t vs c e its acc ρ = .ok ys ρe → ∃ zs, ys = acc ++ zs
  | [], acc, ρ, ys, ρe, h => by
    simp only [lcL] at h
    cases h
    exact ⟨[], by simp⟩
  | x :: xs, acc, ρ, ys, ρe, h => by
    simp only [lcL] at h
    obtain ⟨ρ1, _, h⟩ := Rs.opt_of h
    obtain ⟨b, ρ2, _, h⟩ := Rs.cb_of h
    split at h
    · obtain ⟨y, ρ3, _, h⟩ := Rs.cb_of h
      obtain ⟨zs, e⟩ := lcL_pre xs _ _ _ _ h
      exact ⟨y :: zs, by rw [e]; simp⟩
    · exact lcL_pre xs _ _ _ _ h
theorem strs_app : ∀ (xs ys : List D) (ks : List Str), strsOf (xs ++ ys) = some ks → ∃ a b, strsOf xs = some a ∧ strsOf ys = some b ∧ ks = a ++ b
  | [], ys, ks, h => ⟨[], ks, rfl, h, rfl⟩
  | x :: xs, ys, ks, h => by
    cases x with
    | str s =>
      obtain ⟨js, e, rfl⟩ := Option.map_eq_some_iff.mp (show (strsOf (xs ++ ys)).map (fun ys => s :: ys) = some ks from h)
      obtain ⟨a, b, h1, h2, h3⟩ := strs_app xs ys js e
      exact ⟨s :: a, b, by show (strsOf xs).map _ = _; rw [h1]; rfl, h2, by rw [h3]; rfl⟩
    | _ => cases h
theorem strs_len : ∀ {xs : List D} {ks : List Str}, strsOf xs = some ks → ks.length = xs.length
  | [], ks, h => by cases h; rfl
  | x :: xs, ks, h => by
    cases x with
    | str s =>
      obtain ⟨js, e, rfl⟩ := Option.map_eq_some_iff.mp (show (strsOf xs).map (fun ys => s :: ys) = some ks from h)
      simp [strs_len e]
    | _ => cases h
section
variable {Z : Zt} {W : WX} {X : Cx} {F H F1 H1 F' H' : Hp} {σ σ' σ1 : L2.St} {ρ ρ' ρ1 : En}
theorem keepO {B : Addr} {o : HO} (s : Stp Z F H σ ρ F' H' σ' ρ') (fd : F B = none) (hd : H B = some o) (n : ∀ i, ¬ OwnI σ ρ i B) : F' B = none ∧ H' B = some o ∧ ∀ i, ¬ OwnI σ' ρ' i B := by
  have no : ¬ Ori H σ ρ B := fun z => by
    rcases z with ⟨i, z⟩ | z
    · exact n i z
    · rw [hd] at z; cases z
  refine ⟨?_, s.keep B _ hd n, fun i z => no (s.own i B z)⟩
  cases q : F' B with
  | none => rfl
  | some u =>
    rcases s.new B (by rw [q]; exact fun z => nomatch z) with y | y
    · exact absurd fd y
    · exact absurd y no
theorem growO {B : Addr} {o1 o : HO} (e : EA Z F H σ ρ) (fd : F B = none) (hd : H B = some o1) (n : ∀ i, ¬ OwnI σ ρ i B) : EA Z F (upd H B o) σ ρ where
  sub := fun b u h => by rw [upd_ne fun z => by rw [z, fd] at h; cases h]; exact e.sub _ _ h
  len := e.len
  sl := fun i s h => (e.sl i s h).mono (Same.refl _) fun a u ho so hu hf => ⟨by rw [upd_ne fun z => n i ⟨by rw [← z]; exact join_some ho, s, h, so⟩]; exact hu, hf⟩
  dis := e.dis
theorem d_srtZ {x : Str} {e : Expr} {p pos : Pos} {g : En → Rs (List Str)} (hx : x = "sorted") (hc : X.calm = true) (he : DZ X Z W e g) (hg : Gl X x) (hm : X.mg x = none) (hb : bootBuiltins x = some (.builtin "sorted")) (hn : x ≠ "__name__" := by decide) (hdb : NotDbg x := by decide) (hst : StarOk X e [] := by rfl) (hpl : NoStars X pos [] := by rfl) :
    DF X Z W (.Call (.Name x p) [e] [] pos) (srtZ g) := ⟨pe_imp (pe_callB (cr_sgSorted hc) hg hm hb (pa_cons he.pe pa_nil hst) hn hdb hst hpl) fun σ H Q ⟨F, ρ, ea, q⟩ => ⟨F, ρ, ea, q.bind.mono fun ks ρ1 F1 H1 st e1 q p S n H2 al hp hS hz => by
  refine ⟨p, S, n, rfl, hp, Nat.lt_of_succ_lt hz, fun ys a s1 nd mem ha => ?_⟩
  have e0 : sortU ks = ys := sortU_is ⟨s1, nd, fun k => (mem k).trans (hS k)⟩
  rw [e0] at q
  exact Po.back st e1 q (.ref a) F1 _ (al.trans (Al.lay al.sub ha _)) ⟨a, _, rfl, al.sub.free ha, upd_same, das_strs ys⟩ fun _ p hp => by cases hp; exact al.keep.free ha⟩⟩
theorem d_setZ {x : Str} {e : Expr} {p pos : Pos} {g : En → Rs (List Hd)} (hc : X.calm = true) (ha : DR X Z W [e] g) (hg : Gl X x) (hm : X.mg x = none) (hb : bootBuiltins x = some (.type "set")) (hn : x ≠ "__name__" := by decide) (hdb : NotDbg x := by decide) (hst : StarOk X e [] := by rfl) (hpl : NoStars X pos [] := by rfl) (hk : X.K = Z.K.K := by rfl) :
    DZ X Z W (.Call (.Name x p) [e] [] pos) (setZ g) := ⟨pe_imp (pe_callTy (cr_sgOf hc) hg hm hb ha.pa hn hdb hst hpl) fun σ H Q ⟨F, ρ, ea, q⟩ => ⟨F, ρ, ea, q.bind.mono fun hs ρ1 F1 H1 st e1 q vs hv => by
  obtain ⟨xs, ex, q1⟩ := q.opt
  obtain ⟨ks, ek, q2⟩ := q1.opt
  have pk := resAll_pk e1 hv ex
  obtain ⟨ys, rfl, ej, hl⟩ := setF_of ek
  cases vs with
  | nil => exact pk.elim
  | cons v vr =>
    cases vr with
    | cons _ _ => exact pk.2.elim
    | nil =>
      obtain ⟨⟨l, ws, rfl, hS, hd⟩, _⟩ := pk
      rw [strs_v ej hd] at hS
      have h1 : ks.length + 1 < scanBound := by unfold scanBound; omega
      refine ⟨l, ks, rfl, by rw [hk]; exact hS, h1, fun p hp => ?_⟩
      exact q2.here e1 p (fun k => decide (k ∈ ks)) ks.length (upd H1 p (SgO X.prog X.w p (fun k => decide (k ∈ ks)) ks.length)) (Al.lay e1.sub hp _) upd_same (fun k => decide_eq_true_iff) h1⟩⟩
def ScI (P : Program) (w : World) (Z : Zt) (F1 H1 : Hp) (ws : L2.St) (ρ1 : En) (B : Addr) (r : List D → En → Rs (List D)) (ys : List D) (ρe : En) (n : Nat) (H : Hp) : Prop :=
  ∃ F ρ acc ks S m, EA Z F H ws ρ ∧ Stp Z F1 H1 ws ρ1 F H ws ρ ∧ F B = none ∧ H B = some (SgO P w B S m) ∧ strsOf acc = some ks ∧ (∀ k, S k = true ↔ k ∈ ks) ∧ (∀ i, ¬ OwnI ws ρ i B) ∧ m ≤ n ∧ r acc ρ = .ok ys ρe
theorem sc_in {P : Program} {w : World} {m : En → Rs (List D)} {g : TG} {t : Tg} {vs : List Nat} {tt : TT} {c : En → Rs Bool} {e : En → Rs D} (ht : GOk Z g t) (hv : ∀ i ∈ t.sl, i ∈ vs) (hb : ∀ i ∈ vs, i ∉ Z.bp) (hc : ∀ σ H Q, dT Z W0 c σ H Q → tt σ H Q) :
    ∀ σ H Q, dZ P w Z W (scG m t vs c e) σ H Q → tSg P w (dI Z W m) g tt (dE Z W0 e) vs σ H Q := fun σ H Q ⟨F, ρ, ea, q⟩ => ⟨F, ρ, ea, q.bind.mono fun its ρ1 F1 H1 st1 e1 q J IT B hB => by
  by_cases hle : its.length ≤ 4000
  · rw [if_pos hle] at q
    have lay : Al F1 H1 F1 (upd H1 B (SgO P w B (fun _ => false) 0)) := Al.lay e1.sub hB _
    have e2 := e1.al lay
    generalize hr : lcL t vs c e its [] (wipeE ρ1 vs) = r at q
    cases r with
    | stuck => exact q.elim
    | exc => exact q.elim
    | ok ys ρe =>
      rw [Rs.cb_ok] at q
      obtain ⟨kz, ez, q⟩ := q.opt
      have txt : ∀ (acc zs : List D) (y : D), ys = acc ++ [y] ++ zs → ∃ k, y = .str k := fun acc zs y h => by
        rw [h] at ez
        obtain ⟨a, b, h1, h2, _⟩ := strs_app _ _ _ ez
        obtain ⟨a', b', h3, h4, _⟩ := strs_app _ _ _ h1
        cases y with
        | str k => exact ⟨k, rfl⟩
        | _ => cases h4
      have fin : ∀ F' H' ks S n, F' B = none → H' B = some (SgO P w B S n) → (∀ k, S k = true ↔ k ∈ ks) → strsOf ys = some ks → n ≤ its.length → Stp Z F1 H1 (wipe σ vs) (wipeE ρ1 vs) F' H' (wipe σ vs) ρe → EA Z F' H' (wipe σ vs) ρe → Q (.ref B) H' := by
        intro F' H' ks S n fd hd hS es hn s e'
        have low : ∀ i a, OwnI σ (resE ρ1 ρe vs) i a → i ∉ vs ∧ OwnI (wipe σ vs) ρe i a := fun i a ⟨h1, s, h2, h3⟩ => by
          rcases resE_get h2 with ⟨_, rfl | ⟨x, rfl, _⟩⟩ | ⟨a1, a2⟩
          · cases h3
          · cases h3
          · exact ⟨a1, by rw [wipe_get, if_neg a1]; exact h1, s, a2, h3⟩
        have ori : ∀ b, Ori H1 (wipe σ vs) (wipeE ρ1 vs) b → Ori H1 σ ρ1 b := fun b h => by
          rcases h with ⟨i, h⟩ | h
          · exact .inl ⟨i, (wipe_own h).2⟩
          · exact .inr h
        have st : Stp Z F1 H1 σ ρ1 F' H' σ (resE ρ1 ρe vs) := ⟨s.same, fun b h => (s.new b h).imp id (ori b), fun b o h n => s.keep b o h fun i z => n i (wipe_own z).2, fun i b h => ori b (s.own i b (low i b h).2), fun _ _ _ => rfl, Nat.le_refl _⟩
        have ee : EA Z F' H' σ (resE ρ1 ρe vs) := by
          refine ⟨e'.sub, by rw [resE_len, e'.len, wipe_length], fun i s0 h => ?_, fun i j a h1 h2 => e'.dis i j a (low i a h1).2 (low j a h2).2⟩
          rcases resE_get h with ⟨_, rfl | ⟨x, rfl, a2⟩⟩ | ⟨a1, a2⟩
          · trivial
          · exact (e1.sl i _ a2).mono s.same fun _ _ _ z => nomatch z
          · have := e'.sl i s0 a2
            rwa [wipe_get, if_neg a1] at this
        rw [ez] at es
        cases es
        exact q F' H' st ee B S n H' (Al.refl e'.sub) hd hS (by unfold scanBound; omega)
      have n0 : ∀ i, ¬ OwnI (wipe σ vs) (wipeE ρ1 vs) i B := fun i z => by
        obtain ⟨_, u, hu⟩ := e1.ownF (wipe_own z).2
        rw [hB] at hu; cases hu
      refine ⟨fun i n H' => n = its.length - i ∧ i ≤ its.length ∧ ScI P w Z F1 H1 (wipe σ vs) (wipeE ρ1 vs) B (lcL t vs c e (its.drop i)) ys ρe i H', ⟨its.length, rfl, Nat.zero_le _, F1, wipeE ρ1 vs, [], [], fun _ => false, 0, wipe_ea e2, lay.stp, e1.sub.free hB, upd_same, rfl, fun k => by simp, n0, Nat.le_refl _, hr⟩, ?_⟩
      rintro i n H2 ⟨rfl, hi, F2, ρ2, acc, ks, S, m2, e3, s3, fd, hd, da, hS, nd, hl, hr2⟩
      by_cases hlt : i < its.length
      · refine .inr ⟨IT.go i H2 (s3.same.trans e3.sub) hlt, fun H' => i + 1 ≤ its.length ∧ ScI P w Z F1 H1 (wipe σ vs) (wipeE ρ1 vs) B (lcL t vs c e (its.drop (i + 1))) ys ρe (i + 1) H', fun H' z => ⟨its.length - (i + 1), by omega, rfl, z⟩, fun x H3 yl => ?_⟩
        obtain ⟨F3, d, al, ed, hx⟩ := IT.yl i x F2 H2 H3 s3.same e3.sub hlt yl
        have dr : its.drop i = d :: its.drop (i + 1) := by
          rw [List.drop_eq_getElem_cons hlt]
          have := List.getElem?_eq_getElem hlt
          rw [ed] at this
          rw [Option.some.inj this]
        rw [dr] at hr2
        simp only [lcL] at hr2
        obtain ⟨ρ3, ep, hr2⟩ := Rs.opt_of hr2
        obtain ⟨b, ρ4, hcr, hr2⟩ := Rs.cb_of hr2
        have sa : Stp Z F2 H2 (wipe σ vs) ρ2 F3 H3 (wipe σ vs) ρ2 := al.stp
        refine ht F3 H3 (wipe σ vs) ρ2 d x ρ3 _ (e3.al al) hx ep fun σ3 st3 e4 oth => ?_
        have w3 := oth_wipe oth hv
        refine ⟨w3, hc _ _ _ ⟨F3, ρ3, e4, ?_⟩⟩
        rw [hcr]
        intro F4 H4 s4 e5
        have sb : Stp Z F2 H2 (wipe σ vs) ρ2 F4 H4 σ3 ρ4 := (sa.trans st3).trans s4
        cases b with
        | false =>
          rw [if_neg Bool.false_ne_true] at hr2
          refine (if_neg Bool.false_ne_true).mpr ?_
          have sc := sb.trans (wE_stp w3 hb)
          obtain ⟨k1, k2, k3⟩ := keepO sc fd hd nd
          exact ⟨hlt, F4, _, acc, ks, S, m2, turn_ea e5 w3, s3.trans sc, k1, k2, da, hS, k3, by omega, hr2⟩
        | true =>
          rw [if_pos rfl] at hr2
          refine (if_pos rfl).mpr ?_
          obtain ⟨y, ρ5, her, hr2⟩ := Rs.cb_of hr2
          obtain ⟨zs, ezs⟩ := lcL_pre _ _ _ _ _ hr2
          obtain ⟨k, rfl⟩ := txt acc zs y ezs
          refine ⟨F4, ρ4, e5, ?_⟩
          rw [her]
          intro F5 H5 s5 e6 v hvy
          have sc := (sb.trans s5).trans (wE_stp w3 hb)
          obtain ⟨k1, k2, k3⟩ := keepO sc fd hd nd
          have ac : strsOf (acc ++ [.str k]) = some (ks ++ [k]) := by
            have : ∀ (a : List D) (b : List Str), strsOf a = some b → strsOf (a ++ [.str k]) = some (b ++ [k]) := by
              intro a
              induction a with
              | nil => intro b h; cases h; rfl
              | cons z a ih =>
                intro b h
                cases z with
                | str s =>
                  obtain ⟨js, e, rfl⟩ := Option.map_eq_some_iff.mp (show (strsOf a).map (fun ys => s :: ys) = some b from h)
                  show (strsOf (a ++ [.str k])).map _ = _
                  rw [ih js e]; rfl
                | _ => cases h
            exact this acc ks da
          refine ⟨k, S, m2, da_str hvy, k2, by unfold scanBound; omega, hlt, F5, _, acc ++ [.str k], ks ++ [k], _, m2 + 1, growO (turn_ea e6 w3) k1 k2 k3, ?_, k1, upd_same, ac, fun j => by rw [Bool.or_eq_true, hS j, decide_eq_true_eq, List.mem_append, List.mem_singleton], k3, by omega, hr2⟩
          have sd := s3.trans sc
          refine ⟨sd.same, sd.new, fun b o h n => ?_, sd.own, sd.par, sd.len⟩
          rw [upd_ne fun z => by rw [z, hB] at h; cases h]; exact sd.keep b o h n
      · have ei : i = its.length := by omega
        subst ei
        rw [List.drop_length] at hr2
        cases hr2
        exact .inl ⟨IT.st H2 (s3.same.trans e3.sub), fin F2 H2 ks S m2 fd hd hS da hl s3 e3⟩
  · rw [if_neg hle] at q; exact q.elim⟩
theorem d_sc {elt tg iter : Expr} {scope : Scope} {own : List (Str × Nat)} {pos : Pos} {m : En → Rs (List D)} {g : TG} {t : Tg} {e : En → Rs D} (hc : X.calm = true) (hN : X.N.Nodup) (hi : DI X Z W tg iter m) (ok : BlkOk X.N X.env.scope scope own)
    (hg : Bk X scope fun X => PG X tg g) (ht : GOk Z g t) (hv : ∀ i ∈ t.sl, i ∈ own.map (·.2)) (hb : ∀ i ∈ own.map (·.2), i ∉ Z.bp) (he : Bk X scope fun X => DE X Z W0 elt e)
    (hs : ∀ x, foldedSetIterable iter X.env x = pure x := by first | exact fun _ => rfl | (intro _; rfl)) : DZ X Z W (.SetComp elt [⟨tg, iter, [], 0⟩] scope pos) (scG m t (own.map (·.2)) tru e) :=
  ⟨pe_imp (pe_sg hc hN hi.pi ok hg (fun _ _ _ _ _ => pts_nil) (fun s H C cl fp => (he s H C cl fp).pe) hs) (sc_in ht hv hb tru_in)⟩
theorem d_scIf {elt tg iter c : Expr} {scope : Scope} {own : List (Str × Nat)} {pos : Pos} {m : En → Rs (List D)} {g : TG} {t : Tg} {mc : En → Rs Bool} {e : En → Rs D} (hc : X.calm = true) (hN : X.N.Nodup) (hi : DI X Z W tg iter m) (ok : BlkOk X.N X.env.scope scope own)
    (hg : Bk X scope fun X => PG X tg g) (ht : GOk Z g t) (hv : ∀ i ∈ t.sl, i ∈ own.map (·.2)) (hb : ∀ i ∈ own.map (·.2), i ∉ Z.bp) (hm : Bk X scope fun X => DT X Z W0 c mc) (he : Bk X scope fun X => DE X Z W0 elt e)
    (hs : ∀ x, foldedSetIterable iter X.env x = pure x := by first | exact fun _ => rfl | (intro _; rfl)) : DZ X Z W (.SetComp elt [⟨tg, iter, [c], 0⟩] scope pos) (scG m t (own.map (·.2)) mc e) :=
  ⟨pe_imp (pe_sg hc hN hi.pi ok hg (fun s H C cl fp => pts_one (hm s H C cl fp).pt) (fun s H C cl fp => (he s H C cl fp).pe) hs) (sc_in ht hv hb fun _ _ _ z => z)⟩
end
end

section
def pick {α : Type} (ix : List Nat) (xs : List α) : List α := ix.filterMap fun i => xs[i]?
theorem Vals.at {vs : List V} {us : List Value} (h : Vals vs us) : ∀ i : Nat, (vs[i]? = none ∧ us[i]? = none) ∨ ∃ v u, vs[i]? = some v ∧ us[i]? = some u ∧ RelV v u := by
  induction h with
  | nil => intro i; exact .inl ⟨by simp, by simp⟩
  | cons r _ ih =>
    intro i
    cases i with
    | zero => exact .inr ⟨_, _, rfl, rfl, r⟩
    | succ i => simpa using ih i
theorem Vals.pick {vs : List V} {us : List Value} (h : Vals vs us) : ∀ ix : List Nat, Vals (My.pick ix vs) (My.pick ix us)
  | [] => .nil
  | i :: ix => by
    have t := Vals.pick h ix
    unfold My.pick at t ⊢
    rw [List.filterMap_cons, List.filterMap_cons]
    rcases Vals.at h i with ⟨a, b⟩ | ⟨v, u, a, b, r⟩
    · rw [a, b]; exact t
    · rw [a, b]; exact .cons r t
theorem vals_app : ∀ {vs : List V} {us : List Value} {ws : List V} {xs : List Value}, Vals vs us → Vals ws xs → Vals (vs ++ ws) (us ++ xs)
  | [], _, _, _, .nil, t => t
  | _ :: _, _, _, _, .cons r h, t => .cons r (vals_app h t)
theorem kbindsN {K : PySem.W.Frag} {x qual : Str} {params : Arguments} {body : List Stmt} {scope : Scope} {kws : List (Str × V)} {f : Addr} {fd : FuncData} {ps : List Str} (F : FunD K x qual params body scope [] kws f fd) (n : Nat) (ks : List Str) (ix : List Nat)
    (h : ∀ (kV doc pm : Value) (an : Option Addr) (cdv ct : Value) (us ws : List Value), us.length = n → ws.length = ks.length → bindArgs (PySem.W.fnOf x qual params body scope .none kV doc pm an cdv ct) ⟨us, ks.zip ws⟩ = pure (ps.zip (us ++ pick ix ws))) :
    KBn K fd ps n ks (fun us ws => us ++ pick ix ws) (fun us ws => us ++ pick ix ws) := by
  obtain ⟨_, _, _, kV, doc, pm, an, cdv, ct, _, rfl, _, _, hD, _⟩ := F.ex
  rcases hD with ⟨_, rfl⟩ | ⟨e, _⟩
  · exact ⟨fun s us ws _ l1 l2 => .of_eq (h kV doc pm an cdv ct us ws l1 l2), fun r1 r2 => vals_app r1 (Vals.pick r2 ix)⟩
  · exact absurd rfl e
/-- a method, with keywords -/
structure MetK (P : Program) (w : World) (K : PySem.W.Frag) (mg : Str → Option Value) (base : Heap) (CX : CXT) (k : Nat) (C : Addr) (m : Str) (n : Nat) (ks : List Str) (ix : List Nat) (sp : Sp) : Prop where
  ex : ∃ (f : Addr) (fd : FuncData) (ps : List Str), L2.Cls K C ∧ Meth K C m f ∧ FnOk P w K mg base CX k f fd ps sp ∧ KBn K fd ps n ks (fun us ws => us ++ pick ix ws) (fun us ws => us ++ pick ix ws)
abbrev CallsSoK (X : Cx) (o : Expr) (m : Str) (args : List Expr) (kws : List Keyword) (apos pos : Pos) (pl : Sem Bool) : Prop :=
  eval (.Call (.Attribute o m apos) args kws pos) X.env = eval o X.env >>= fun v => standAt apos.atName >>= fun _ => holding [v] (getMethod v m pl) >>= fun r => callWith pos r.1 r.2 (backTo pos (starEach args X.env)) (backToKw pos (keywordEach kws X.env))
section
variable {X : Cx} {Zc : CXT} {k j n : Nat} {C : Addr} {m : Str} {ks : List Str} {ix : List Nat} {sp : Sp} {E : L2.St → XK} {pos apos : Pos} {o : Expr} {kws : List Keyword} {ta : TE} {t : TA}
def tMethK (C : Addr) (m : Str) (nk : Nat) (ix : List Nat) (sp : Sp) (E : L2.St → XK) (ta : TE) (t : TA) : TE := fun σ H Q => ta σ H fun x H1 => ∃ a dx fs, x = .ref a ∧ H1 a = some (.ins C dx fs) ∧ fs.lookup m = none ∧ t σ H1 fun vs H2 => vs.length = nk ∧ sp (x :: pick ix vs) H2 Q (E σ)
/-- o.m(k = v, ..) -/
theorem pe_mK0 {pl : Sem Bool} (c : MetK X.prog X.w X.K X.mg X.base Zc k C m 1 ks ix sp) (hr : Room j X.A) (hk : k ≤ j) (hx : ∀ σ, PassesAt Zc X σ (E σ)) (he : PE X o ta) (ha : PK X kws t)
    (hall : (backToKw pos (keywordEach kws X.env)).all (·.1.isSome) = true := by rfl) (hks : (backToKw pos (keywordEach kws X.env)).filterMap (·.1) = ks := by rfl)
    (hpl : ((backTo pos (starEach [] X.env)).any (·.1) || (backToKw pos (keywordEach kws X.env)).any (·.1.isNone)) = false := by rfl)
    (ht : CallsSoK X o m [] kws apos pos pl := by rfl) : PE X (.Call (.Attribute o m apos) [] kws pos) (tMethK C m ks.length ix sp E ta t) := by
  obtain ⟨f, fd, ps, cl, hm, F, b⟩ := c.ex
  refine ⟨fun pins s σ H Q I h => PySem.W.methodCall_KW (pl := pl) (thn (he.run pins s σ H _ I h) fun u s1 hh => ?_) ht⟩
  obtain ⟨y, H1, I1, ry, a, dx, fs, ey, ea, l, q⟩ := hh
  subst ey; obtain rfl : u = Value.ref a := ry
  refine getmeth_ok I1 ea cl hm l (PySem.W.callWith_KW0 (first := [.ref a]) (h₀ := X.base) I1.ok.mod.kin hm.kp hall (thn (ha.run pos pins s1 σ H1 _ I1 q) fun ws s2 hh2 => ?_) hpl)
  obtain ⟨vs, H2, I2, r, l2, q2⟩ := hh2
  refine ⟨I2.kIn, ?_⟩
  rw [hks]
  have r2 := b.rel (vs := [.ref a]) (us := [.ref a]) (.cons rfl .nil) r
  refine wpAny_call (codeAny_mono (F.run X.A X.stack s2 H2 ⟨[.ref a], ks.zip ws⟩ ([Value.ref a] ++ pick ix ws) ([V.ref a] ++ pick ix vs) Q (E σ) (hr.mono hk) I2.env0 (b.to s2 [.ref a] ws I2.kIn rfl (r.length.symm.trans l2)) r2 q2) fun z s' hz => ?_)
  cases z with
  | error e => exact hx σ pins H2 s2 e s' I2 hz
  | ok fl =>
    cases fl with
    | ret u => exact I2.after hz
    | next => exact False.elim hz
    | brk => exact False.elim hz
    | cont => exact False.elim hz
end
/-! the same as data -/
structure DRK (X : Cx) (Z : Zt) (W : WX) (kws : List Keyword) (m : En → Rs (List Hd)) : Prop where
  pk : PK X kws (dA Z W m)
section
variable {Z : Zt} {W : WX} {X : Cx} {F H F1 H1 F' H' : Hp} {σ σ' σ1 : L2.St} {ρ ρ' ρ1 : En}
theorem d_kr0 : DRK X Z W [] ar0 := ⟨⟨fun pos pins s σ H Q I h => by
  obtain ⟨F, ρ, ea, q⟩ := h
  exact pk_nil.run pos pins s σ H Q I (q.here ea [] trivial)⟩⟩
theorem d_krc {nm : Option Str} {e : Expr} {kpos : Pos} {kws : List Keyword} {h : En → Rs Hd} {g : En → Rs (List Hd)} (he : DO X Z W e h) (hg : DRK X Z W kws g) : DRK X Z W (⟨nm, e, kpos⟩ :: kws) (arc h g) := ⟨⟨fun pos pins s σ H Q I hh => by
  obtain ⟨F, ρ, ea, q⟩ := hh
  exact (pk_cons (nm := nm) he.pe hg.pk).run pos pins s σ H Q I ⟨F, ρ, ea, q.bind.mono fun a ρ1 F1 H1 st e1 q v hv => ⟨F1, ρ1, e1, q.bind.mono fun as ρ2 F2 H2 st2 e2 q vs hvs => q.here e2 (v :: vs) ⟨hv.mono st2.same, hvs⟩⟩⟩⟩⟩
def kar (nk : Nat) (ix : List Nat) (g : En → Rs (List Hd)) : En → Rs (List Hd) := fun ρ => (g ρ).bind fun hs ρ' => if hs.length = nk then .ok (pick ix hs) ρ' else .stuck
theorem hds_len {K : Kt} : ∀ {hs : List Hd} {vs : List V}, HdsA K F σ vs hs → vs.length = hs.length
  | [], [], _ => rfl
  | _ :: _, _ :: _, h => by rw [List.length_cons, List.length_cons, hds_len h.2]
  | [], _ :: _, h => h.elim
  | _ :: _, [], h => h.elim
theorem hds_at {K : Kt} : ∀ {hs : List Hd} {vs : List V}, HdsA K F σ vs hs → ∀ i : Nat, (vs[i]? = none ∧ hs[i]? = none) ∨ ∃ v h, vs[i]? = some v ∧ hs[i]? = some h ∧ HdA K F σ v h
  | [], [], _, i => .inl ⟨by simp, by simp⟩
  | h :: hs, v :: vs, q, i => by
    cases i with
    | zero => exact .inr ⟨v, h, rfl, rfl, q.1⟩
    | succ i => simpa using hds_at q.2 i
  | [], _ :: _, h, _ => h.elim
  | _ :: _, [], h, _ => h.elim
theorem hds_pick {K : Kt} {hs : List Hd} {vs : List V} (h : HdsA K F σ vs hs) : ∀ ix : List Nat, HdsA K F σ (pick ix vs) (pick ix hs)
  | [] => trivial
  | i :: ix => by
    have t := hds_pick h ix
    unfold pick at t ⊢
    rw [List.filterMap_cons, List.filterMap_cons]
    rcases hds_at h i with ⟨a, b⟩ | ⟨v, u, a, b, r⟩
    · rw [a, b]; exact t
    · rw [a, b]; exact ⟨r, t⟩
theorem d_methK0 {CT : CXT} {k j c n : Nat} {nm mn : Str} {fs : List Str} {ks : List Str} {ix : List Nat} {m : List S → Rs S} {h : En → Rs Hd} {g : En → Rs (List Hd)} {o : Expr} {kws : List Keyword} {pos apos : Pos} {pl : Sem Bool} (hc : Z.K.ct[c]? = some (nm, fs)) (hm : mn ∉ fs)
    (cm : MetK X.prog X.w X.K X.mg X.base CT k (He.ga Z.K.K nm) mn 1 ks ix (spD Z.K n m)) (hr : Room j X.A) (hk : k ≤ j) (hx : ∀ σ, PassesAt CT X σ (WE W σ)) (ho : DO X Z W o h) (ha : DRK X Z W kws g)
    (hall : (backToKw pos (keywordEach kws X.env)).all (·.1.isSome) = true := by rfl) (hks : (backToKw pos (keywordEach kws X.env)).filterMap (·.1) = ks := by rfl)
    (hpl : ((backTo pos (starEach [] X.env)).any (·.1) || (backToKw pos (keywordEach kws X.env)).any (·.1.isNone)) = false := by rfl)
    (ht : CallsSoK X o mn [] kws apos pos pl := by rfl) :
    DF X Z W (.Call (.Attribute o mn apos) [] kws pos) (callm c n m h (kar ks.length ix g)) := ⟨pe_imp (pe_mK0 (pl := pl) cm hr hk hx ho.pe ha.pk hall hks hpl ht) fun σ H Q q => by
  obtain ⟨F, ρ, ea, q⟩ := callm_in (W := W) (g := kar ks.length ix g) hc hm σ H Q q
  refine ⟨F, ρ, ea, q.mono fun a ρ0 F0 H0 st e0 p v hv => ?_⟩
  obtain ⟨x, dx, gs, r1, r2, r3, F1, ρ1, e1, r4⟩ := p v hv
  refine ⟨x, dx, gs, r1, r2, r3, F1, ρ1, e1, ?_⟩
  unfold kar at r4
  refine r4.bind.mono fun hs ρ2 F2 H2 st2 e2 r5 vs hvs => ?_
  by_cases c : hs.length = ks.length
  · rw [if_pos c] at r5
    exact ⟨by rw [hds_len hvs, c], r5.here e2 _ (hds_pick hvs ix)⟩
  · rw [if_neg c] at r5; exact r5.elim⟩
end
end

section
/-- the dict at d is this table -/
structure KTab (K : PySem.W.Frag) (w : World) (d : Addr) (tbl : Tbl) : Prop where
  kd : ∃ es n, KDict K w d es n
  has : ∀ z ws, tbl.lookup z = some ws → ∃ p, PySem.W.nsIn K d z = some (some (.ref p)) ∧ ∀ F, SqT K F p (ws.map V.str)
  no : ∀ z, tbl.lookup z = none → PySem.W.nsIn K d z = some none
theorem strsB_ok : ∀ {vs : List Value} {ws : List Str}, strsB vs ws = true → Vals (ws.map V.str) vs
  | [], [], _ => .nil
  | v :: vs, w :: ws, h => by
    cases v with
    | str x t =>
      have h : (decide (x = w) && strsB vs ws) = true := h
      rw [Bool.and_eq_true, decide_eq_true_eq] at h
      obtain ⟨rfl, h2⟩ := h
      exact .cons ⟨t, rfl⟩ (strsB_ok h2)
    | _ => cases h
  | [], _ :: _, h => by cases h
  | v :: _, [], h => by cases v <;> cases h
theorem lookup_mem' : ∀ {tbl : Tbl} {z : Str} {ws : List Str}, tbl.lookup z = some ws → (z, ws) ∈ tbl
  | (k, v) :: r, z, ws, h => by
    rw [List.lookup_cons] at h
    cases c : (z == k) with
    | true => rw [c] at h; cases h; rw [eq_of_beq c]; exact List.mem_cons_self
    | false => rw [c] at h; exact List.mem_cons_of_mem _ (lookup_mem' h)
  | [], _, _, h => by cases h
theorem lookup_no : ∀ {tbl : Tbl} {z : Str}, tbl.lookup z = none → z ∉ tbl.map (·.1)
  | (k, v) :: r, z, h => by
    rw [List.lookup_cons] at h
    cases c : (z == k) with
    | true => rw [c] at h; cases h
    | false =>
      rw [c] at h
      intro hm
      rcases List.mem_cons.mp hm with e | e
      · have : z = k := e
        rw [this, beq_self_eq_true] at c; cases c
      · exact lookup_no h e
  | [], _, _ => by simp
theorem ktab_of {K : PySem.W.Frag} {w : World} {d : Addr} {tbl : Tbl} (h1 : He.dicW K d = some (He.keysIn w.params (tbl.map (·.1)))) (h2 : tabB K d tbl = true) : KTab K w d tbl where
  kd := He.dicW_ok h1
  has := fun z ws hz => by
    have hm := List.all_eq_true.mp h2 _ (lookup_mem' hz)
    simp only at hm
    split at hm
    · rename_i p hp
      split at hm
      · rename_i c od its n sl hl
        rw [Bool.and_eq_true, Bool.and_eq_true, decide_eq_true_eq, decide_eq_true_eq] at hm
        obtain ⟨⟨rfl, h4⟩, h5⟩ := hm
        exact ⟨p, hp, fun F => .inr ⟨_, its, n, hl, rfl, rfl, Nat.le_trans h4 (by rw [sizeLine_eq]; decide), strsB_ok h5⟩⟩
      · cases hm
    · cases hm
  no := fun z hz => by
    obtain ⟨es, n, D⟩ := He.dicW_ok h1
    have hk : es.toList.map He.keyOf = He.keysIn w.params (tbl.map (·.1)) := by
      unfold He.dicW at h1
      rw [D.at_] at h1
      simp only [decide_true, Bool.true_and] at h1
      split at h1
      · exact Option.some.inj h1
      · cases h1
    have key : ∀ e ∈ es.toList, ∃ k t, k ∈ tbl.map (·.1) ∧ e.key = .str k t := fun e he => by
      have : He.keyOf e ∈ He.keysIn w.params (tbl.map (·.1)) := by rw [← hk]; exact List.mem_map_of_mem he
      obtain ⟨k, hk1, hk2⟩ := List.mem_map.mp this
      unfold He.keyOf at hk2
      split at hk2
      · rename_i x t hx
        have e1 := (Prod.mk.inj (Option.some.inj hk2)).1
        exact ⟨k, t, hk1, by rw [hx, e1]⟩
      · cases hk2
    have nz := lookup_no hz
    unfold PySem.W.nsIn
    rw [D.at_]
    have f : es.toList.find? (·.key.isStr z) = none := List.find?_eq_none.mpr fun e he q => by
      obtain ⟨k, t, h3, h4⟩ := key e he
      rw [h4] at q
      have : k = z := by simpa [Value.isStr] using q
      exact nz (this ▸ h3)
    have r : es.toList.any (·.refKey) = false := by
      rw [Bool.eq_false_iff]
      intro q
      obtain ⟨e, he, q⟩ := List.any_eq_true.mp q
      obtain ⟨k, t, h3, h4⟩ := key e he
      unfold DictEntry.refKey at q
      rw [h4] at q
      cases q
    simp only [f, r]
    rfl
def kix (tbl : Tbl) (m : En → Rs D) : En → Rs D := fun ρ => (m ρ).bind fun x ρ' => match x with
  | .str z => Rs.opt (tbl.lookup z) fun ws => .ok (.tup (ws.map .str)) ρ'
  | _ => .stuck
def kin (tbl : Tbl) (m : En → Rs D) : En → Rs D := fun ρ => (m ρ).bind fun x ρ' => match x with
  | .str z => .ok (.bl (tbl.lookup z).isSome) ρ'
  | _ => .stuck
def asg2 (m : En → Rs D) (t1 t2 : Tg) : En → Ctl := fun ρ => (m ρ).ctl fun x ρ' => putC t1 x ρ' fun ρ2 => putC t2 x ρ2 fun ρ3 => .nx ρ3
section
variable {Z : Zt} {W : WX} {X : Cx} {F H F1 H1 F' H' : Hp} {σ σ' σ1 : L2.St} {ρ ρ' ρ1 : En}
theorem d_kix {a b : Expr} {pos : Pos} {d : Addr} {tbl : Tbl} {m : En → Rs D} (T : KTab X.K X.w d tbl) (ha : PE X a (tC (.ref d))) (hb : DE X Z W b m) (hp : PlainIx b) (hk : X.K = Z.K.K := by rfl) : DE X Z W (.Subscript a b pos) (kix tbl m) :=
  ⟨pe_imp (pe_ix ix_kdict ha hb.pe hp) fun σ H Q ⟨F, ρ, ea, q⟩ => ⟨F, ρ, ea, q.bind.mono fun x ρ1 F1 H1 st e1 q v hv => by
    cases x with
    | str z =>
      obtain ⟨ws, ew, q2⟩ := q.opt
      obtain ⟨p, hp, sq⟩ := T.has z ws ew
      obtain ⟨es, n, D⟩ := T.kd
      refine ⟨d, z, .ref p, rfl, da_str hv, ⟨es, n, .ref p, D.at_, D.lit, hp, rfl⟩, q2.here e1 _ (DA.tup (vs := ws.map V.str) (hk ▸ sq F1) (das_strs ws))⟩
    | _ => exact q.elim⟩⟩
theorem d_kin {a b : Expr} {pos : Pos} {d : Addr} {tbl : Tbl} {m : En → Rs D} (T : KTab X.K X.w d tbl) (hb : PE X b (tC (.ref d))) (ha : DE X Z W a m) (hm : behindInMarks .In b = false := by rfl) : DE X Z W (.Compare a [.In] [b] pos) (kin tbl m) := by
  obtain ⟨es, n, Dk⟩ := T.kd
  exact ⟨pe_imp (pe_cmpR (op_in_kd Dk) ha.pe hb hm) fun σ H Q ⟨F, ρ, ea, q⟩ => ⟨F, ρ, ea, q.bind.mono fun x ρ1 F1 H1 st e1 q v hv => by
    cases x with
    | str z =>
      replace q : Sat Z W F1 H1 σ ρ1 (Rs.ok (D.bl (tbl.lookup z).isSome) ρ1) fun x ρ' F' H' => ∀ v, DA Z.K F' x v → Q v H' := q
      cases c : tbl.lookup z with
      | none =>
        rw [c] at q
        exact ⟨z, none, da_str hv, rfl, T.no z c, q.here e1 _ DA.bl⟩
      | some ws =>
        rw [c] at q
        obtain ⟨p, hp, _⟩ := T.has z ws c
        exact ⟨z, some (.ref p), da_str hv, rfl, hp, q.here e1 _ DA.bl⟩
    | _ => exact q.elim⟩⟩
theorem d_asg2 {pos : Pos} {t1 t2 e : Expr} {m : En → Rs D} {g1 g2 : TG} {a b : Tg} (h : DE X Z W e m) (p1 : PG X t1 g1) (p2 : PG X t2 g2) (k1 : GOk Z g1 a) (k2 : GOk Z g2 b)
    (h1 : (assignEach [t1, t2] X.env).map (·.2) = [assign t1 X.env, assign t2 X.env] := by rfl) (h2 : swappedStores [t1, t2] e X.env = pure none := by rfl) : DS X Z W (.Assign [t1, t2] e pos) (asg2 m a b) :=
  ⟨ps_imp (ps_asg2 h.pe p1 p2 h1 h2) fun E σ H ⟨F, ρ, ea, q⟩ => ⟨F, ρ, ea, q.ctl.mono fun x ρ' F' H' st e p v hv => by
    unfold putC at p
    cases r : a.put x ρ' with
    | none => rw [r] at p; exact p.elim
    | some ρ2 =>
      rw [r] at p
      simp only at p
      cases r2 : b.put x ρ2 with
      | none => rw [r2] at p; exact p.elim
      | some ρ3 =>
        rw [r2] at p
        exact k1 F' H' σ ρ' x v ρ2 _ e hv r fun σ2 s2 e2 _ => k2 F' H' σ2 ρ2 x v ρ3 _ e2 hv r2 fun σ3 s3 e3 _ => p σ3 F' H' (s2.trans s3) e3⟩⟩
end
end

section
section
variable {P : Program} {w : World} {A : Around} {E : Value → Shared → Prop} {s : Shared}
theorem places_back (n : Nat) : Builtin.Slice.slicePlaces ((n : Int) - 1) (-1) (-1) = n := by
  unfold Builtin.Slice.slicePlaces
  rw [if_neg (by decide)]
  by_cases c : (n : Int) - 1 > -1
  · rw [if_pos c, show ((n : Int) - 1 - -1 - 1) / (- -1) + 1 = n by rw [show (- -1 : Int) = 1 by decide, Int.ediv_one]; omega]
    simp
  · rw [if_neg c]; omega
/-- a slice that goes back over all -/
theorem applied_rev {sl : Addr} {v : Value} {n : Nat} {Q : Int × Int × Nat → Shared → Prop} (hs : s.heap.IsSliceOf sl .none .none v) (pv : IsPart v (some (-1))) (h : Q ((n : Int) - 1, -1, n) s) : wpAny (model P w) A (Builtin.Slice.sliceApplied (.ref sl) (pure (n : Int))) Q E s := by
  obtain ⟨o, at_, _, fields⟩ := hs
  unfold Builtin.Slice.sliceApplied
  unfold Builtin.Slice.sliceFields
  have f : ∀ {x : Value} {k : Nat} {Q : Value → Shared → Prop}, (#[Value.none, Value.none, v] : Array Value)[k]? = some x → Q x s → wpAny (model P w) A (field (.ref sl) k) Q E s := fun e q => wpAny_field at_ fields e q
  refine wpAny_bind (wpAny_bind (f (x := .none) rfl (wpAny_bind (f (x := .none) rfl (wpAny_bind (f (x := v) rfl (wpAny_pure ?_)))))))
  refine wpAny_bind (HT.slicePart_ pv ?_)
  show wpAny _ _ (Builtin.Slice.slicePartIndex .none >>= _) _ _ s
  refine wpAny_bind (HT.slicePart_ .none (wpAny_bind (HT.slicePart_ .none (wpAny_bind (wpAny_pure ?_)))))
  have q : Q ((n : Int) - 1, -1, Builtin.Slice.slicePlaces ((n : Int) - 1) (-1) (-1)) s := by rw [places_back]; exact h
  exact wpAny_pure q
theorem pick_rev (xs : Array Value) : ((List.range xs.size).filterMap fun (k : Nat) => xs[((xs.size : Int) - 1 + (k : Int) * -1).toNat]?) = xs.toList.reverse := by
  have fm : ∀ (l : List Nat), (∀ k ∈ l, ∃ v, xs[((xs.size : Int) - 1 + (k : Int) * -1).toNat]? = some v) → ∀ i : Nat, (l.filterMap fun (k : Nat) => xs[((xs.size : Int) - 1 + (k : Int) * -1).toNat]?)[i]? = (l[i]?).bind fun k => xs[((xs.size : Int) - 1 + (k : Int) * -1).toNat]? := by
    intro l
    induction l with
    | nil => intro _ i; simp
    | cons k l ih =>
      intro h i
      obtain ⟨v, hv⟩ := h k List.mem_cons_self
      rw [List.filterMap_cons, hv]
      cases i with
      | zero => exact hv.symm
      | succ i => simpa using ih (fun k hk => h k (List.mem_cons_of_mem _ hk)) i
  apply List.ext_getElem?
  intro i
  rw [fm _ fun k hk => ⟨_, Array.getElem?_eq_getElem (by have := List.mem_range.mp hk; omega)⟩]
  by_cases c : i < xs.size
  · rw [List.getElem?_range c, List.getElem?_reverse (by simpa using c)]
    simp only [Option.bind_some, Array.length_toList, Array.getElem?_toList]
    congr 1
    omega
  · rw [List.getElem?_eq_none (by simpa using c), List.getElem?_eq_none (by simpa using c)]
    rfl
theorem getItem_rev {t sl : Addr} {items : Array Value} {v : Value} {Q : Value → Shared → Prop} (ht : IsTup s.heap t items) (hs : s.heap.IsSliceOf sl .none .none v) (pv : IsPart v (some (-1)))
    (h : Q (.ref s.heap.objs.size) { s with heap := s.heap.push { cls := .type "tuple", data := .seq items.toList.reverse.toArray } }) (hz : items.size ≤ sizeLine) : wpAny (model P w) A (getItem (.ref t) (.ref sl)) Q E s := by
  have few : sizeOk (.seq items.toList.reverse.toArray) := (show items.toList.reverse.toArray.size ≤ sizeLine by simpa using hz)
  have tyS : s.TypeIs (.ref sl) "slice" := hs.elim fun o q => ⟨o, q.1, q.2.1⟩
  have tyT := ht.typeIs
  unfold getItem
  refine wpAny_holding (wpAny_bind (wpAny_sequenceKey tyT (by decide) (wpAny_bind (wpAny_callSpecial?_slot (name := Str.ofString "__getitem__") tyT PyProof.Rows.slot_tuple_getitem (wpAny_call_entry PyProof.Rows.slot_tuple_getitem tyT entry_tuple_getitem ?_ (args_tuple_getitem _ _))))))
  show wpAny _ _ (Builtin.Tuple.tupleItemsOf (.ref t) >>= fun xs => _) _ _ s
  refine wpAny_bind (tupleItemsOf_ ht (wpAny_bind (wpAny_typeOf tyS ?_)))
  rw [if_pos (by decide)]
  refine wpAny_bind (applied_rev hs pv ?_)
  show wpAny _ _ (if (((items.size : Int) - 1 == 0) && ((-1 : Int) == 1) && (items.size == items.size)) = true then _ else _) _ _ s
  rw [if_neg (by simp), pick_rev]
  first
    | exact wpAny_bind (m := Builtin.Tuple.tupleExact _) (wpAny_newObj_type (wpAny_pure ⟨_, rfl, wpAny_pure h⟩) few)
    | exact wpAny_bind (m := Builtin.Tuple.tupleExact _) (wpAny_newObj_type (wpAny_bind (wpAny_pure (wpAny_pure ⟨_, rfl, wpAny_pure h⟩))) few)
    | exact wpAny_bind (wpAny_bind (m := Builtin.Tuple.tupleExact _) (wpAny_newObj_type (wpAny_pure (wpAny_pure ⟨_, rfl, wpAny_pure h⟩)) few))
    | exact wpAny_bind (wpAny_bind (m := Builtin.Tuple.tupleExact _) (wpAny_newObj_type (wpAny_pure ⟨_, rfl, wpAny_pure h⟩) few))
/-- xs.extend(t) as the machine does it -/
theorem ext_run {l b : Addr} {xs ys : Array Value} {n : Nat} {Q : Value → Shared → Prop} (hl : s.heap.get? l = some { cls := .type "list", data := .seq xs n }) (ht : IsTup s.heap b ys) (hz : xs.size + ys.size ≤ sizeLine)
    (h : Q .none { s with heap := s.heap.update l (Obj.mapSeq fun x => x ++ ys) }) : wpAny (model P w) A (call (.builtin "list.extend") [.ref l, .ref b]) Q E s := by
  refine wpAny_call_entry F.slot_list_extend (s := s) ⟨_, hl, rfl⟩ F.entry_list_extend ?_ (F.args_list_extend_2 _ _)
  show wpAny _ _ (Builtin.List.listExtendWith (.ref l) (.ref b) .none) _ _ s
  unfold Builtin.List.listExtendWith
  refine wpAny_bind (wpAny_typeOf ht.typeIs ?_)
  have way : (Builtin.List.listSameRef (.ref l) (.ref b) || Value.type "tuple" == Value.type "list" || Value.type "tuple" == Value.type "tuple") = true := by simp
  rw [if_pos way]
  obtain ⟨o, ho, _, k, hd⟩ := ht
  refine wpAny_bind (listItems_at ho hd (wpAny_bind (listItems_at hl rfl ?_)))
  have short : (!xs.isEmpty && Builtin.List.listTooLong (xs.size + ys.size)) = false := by rw [notLongL hz, Bool.and_false]
  rw [short]
  have s1 : xs.size ≤ sizeLine := by omega
  have s2 : (xs ++ ys).size ≤ sizeLine + 1 := by rw [Array.size_append]; omega
  exact wpAny_bind (listUpdate_at hl rfl (wpAny_pure ⟨_, rfl, h⟩) s1 s2)
end
section
variable {X : Cx}
/-- the value of ::-1 -/
theorem slice_back {k : Nat} {p1 p2 p3 : Pos} {pins : List (Addr × Obj)} {s : Shared} {σ : L2.St} {H : Hp} (I : Inv X pins σ H s) {Q : Value → Shared → Prop}
    (h : ∀ v s', IsPart v (some (-1)) → Inv X pins σ H s' → Q (.ref s'.heap.objs.size) { s' with heap := s'.heap.push { cls := .type "slice", data := .fields #[.none, .none, v] } }) :
    wpAny (model X.prog X.w) X.A (eval (.Slice none none (some (.UnaryOp .USub (.Constant (.int 1) k p1) p2)) p3) X.env) Q X.xe s := by
  have back : PO X (some (.UnaryOp .USub (.Constant (.int 1) k p1) p2)) _ := po_some (pe_un un_neg pe_int)
  have empty : ∀ {s : Shared} {Q : Value → Shared → Prop}, Q .none s → wpAny (model X.prog X.w) X.A (evalPart none X.env) Q X.xe s := fun q => by rw [evalPart_none]; exact wpAny_pure q
  exact wpAny_Slice (empty (empty (thn (back.run pins s σ H (fun o H4 => o = some (-1) ∧ H4 = H) I ⟨1, rfl, -1, rfl, rfl, rfl⟩) fun v s4 ⟨o, H4, I4, pv, e1, e2⟩ => h v s4 (e1 ▸ pv) (e2 ▸ I4))))
def tRevT (K : PySem.W.Frag) (te : TE) : TE := fun σ H Q => te σ H fun x H1 => ∃ a xs, x = .ref a ∧ SqT K H1 a xs ∧ ∀ p, H1 p = none → Q (.ref p) (upd H1 p (.tup xs.reverse))
/-- t[::-1] -/
theorem pe_revT {e : Expr} {te : TE} {k : Nat} {p1 p2 p3 pos : Pos} (he : PE X e te) : PE X (.Subscript e (.Slice none none (some (.UnaryOp .USub (.Constant (.int 1) k p1) p2)) p3) pos) (tRevT X.K te) := by
  refine ⟨fun pins s σ H Q I h => Subscript_ (thn (he.run pins s σ H _ I h) fun u s1 ⟨x, H1, I1, r1, a, xs, ex, hx, q⟩ => ?_)⟩
  subst ex
  obtain rfl : u = .ref a := r1
  refine slice_back I1 fun v s4 pv I4 => ?_
  have I5 : Inv X pins σ H1 { s4 with heap := s4.heap.push { cls := .type "slice", data := .fields #[.none, .none, v] } } := I4.kept (t' := s4.toks) fun b ob q => Heap.get?_push_of_some _ q
  obtain ⟨its, r, ht, hz⟩ := I5.tuple hx
  have len := r.length
  refine tail_any (ops := [.ref a, .ref s4.heap.objs.size]) ht.typeIs PyProof.Rows.slot_tuple_getitem.lookup (getItem_rev ht (Heap.IsSliceOf.new _ .none .none v) pv ?_ (by rw [List.size_toArray]; omega)) (by with_unfolding_all rfl)
  exact ⟨.ref _, _, I5.laid (t' := s4.toks) (o := .tup xs.reverse) (fun b ob q => Heap.get?_push_of_some _ q) (Nat.le_refl _) ⟨by rw [List.length_reverse]; exact hz, its.reverse, r.reverse, ⟨_, Heap.get?_push_size _ rfl, rfl, 0, by simp⟩⟩, rfl, q _ (I5.hok.fresh (Nat.le_refl _))⟩
def rExtT (K : PySem.W.Frag) : V → List V → Hp → VK → Prop := fun x vs H Q => ∃ l b xs zs, x = .ref l ∧ vs = [.ref b] ∧ H l = some (.lst xs) ∧ SqT K H b zs ∧ xs.length + zs.length ≤ sizeLine ∧ Q .non (upd H l (.lst (xs ++ zs)))
/-- xs.extend(t) -/
theorem mt_extT : MtM X "list.extend" (rExtT X.K) := by
  rintro pins s σ H _ _ v us Q I rx rv ⟨l, b, xs, zs, rfl, rfl, at_, tup, few, q⟩
  obtain rfl : v = .ref l := rx
  obtain ⟨u, rfl, ru⟩ := rv.one
  obtain rfl : u = .ref b := ru
  obtain ⟨_, its, n, r, l1, e⟩ := I.lstM at_
  obtain ⟨its2, r2, ht, _⟩ := I.tuple tup
  have l2 := r2.length
  exact ext_run e ht (by simp only [List.size_toArray]; omega) ⟨.non, _, I.lset (t' := s.toks) (its' := its ++ its2) at_ e (by simp) (r.append r2) (by rw [List.length_append]; omega), rfl, q⟩
end
def revTF : D → Option S
  | .tup xs => some (.d (.tup xs.reverse))
  | _ => none
def extF (xs : List D) : D → Option (List D × D)
  | .tup ys => if xs.length + ys.length ≤ 100000 then some (xs ++ ys, .non) else none
  | _ => none
section
variable {Z : Zt} {W : WX} {X : Cx}
theorem d_revT {e : Expr} {k : Nat} {p1 p2 p3 pos : Pos} {h : En → Rs Hd} (he : DO X Z W e h) (hk : X.K = Z.K.K := by rfl) : DF X Z W (.Subscript e (.Slice none none (some (.UnaryOp .USub (.Constant (.int 1) k p1) p2)) p3) pos) (op1 revTF h) := ⟨pe_imp (pe_revT he.pe) (op1_in (r := fun x H1 Q => ∃ a xs, x = .ref a ∧ SqT X.K H1 a xs ∧ ∀ p, H1 p = none → Q (.ref p) (upd H1 p (.tup xs.reverse))) fun F H x v s Q sm p e k => by
  cases x with
  | tup xs => cases e; obtain ⟨a, vs, rfl, h1, h2, _⟩ := p; exact ⟨a, vs, rfl, hk ▸ h1, fun b n => k.tup sm h2.reverse b n⟩
  | _ => cases e)⟩
theorem ok_extT {K : PySem.W.Frag} (hk : K = Z.K.K) : OkM1 Z (rExtT K) extF := by
  intro F H a vs xs x w p Q sm ha hd hx e k
  cases x with
  | tup ys =>
    obtain ⟨b, ws, rfl, sq, dy⟩ := hx.tup'
    replace e : (if xs.length + ys.length ≤ 100000 then some (xs ++ ys, D.non) else none) = some p := e
    by_cases hl : xs.length + ys.length ≤ 100000
    · rw [if_pos hl] at e
      cases e
      have l1 := hd.length
      have l2 := dy.length
      exact ⟨a, b, vs, ws, rfl, rfl, ha, hk ▸ same_t sm sq, by rw [l1, l2, sizeLine_eq]; omega, k _ _ DA.non (hd.append dy)⟩
    · rw [if_neg hl] at e; cases e
  | _ => cases e
end
theorem tab_at {fa : List He.Fa} {fn : List He.DefD} {ts : List He.Tab} {w : World} {K : PySem.W.Frag} (c : He.SaysT fa fn ts w K) (i : Nat) {t : He.Tab} (h : ts[i]? = some t) : He.dicW K (t.1 K) = some (He.keysIn w.params t.2) := by
  have e : (ts.map fun t => He.dicW K (t.1 K)) = ts.map fun t => some (He.keysIn w.params t.2) := congrArg (fun z : He.AlT => z.2) c
  have e2 := congrArg (fun z => z[i]?) e
  simp only [List.getElem?_map, h, Option.map_some] at e2
  exact Option.some.inj e2
end

section
/-- the same signs again and again -/
def repS (z : Str) (n : Nat) : Str := ⟨(List.replicate n z.cps).foldl (· ++ ·) #[]⟩
theorem repS_one (z : Str) : repS z 1 = z := by
  have : (List.replicate 1 z.cps).foldl (· ++ ·) #[] = z.cps := by simp
  unfold repS
  rw [this]
theorem repS_none (z : Str) : repS z 0 = Str.empty := rfl
theorem fold_empty {n : Nat} : (List.replicate n (#[] : Array Nat)).foldl (· ++ ·) #[] = #[] := by
  induction n with
  | zero => rfl
  | succ n ih => rw [List.replicate_succ, List.foldl_cons]; simpa using ih
theorem repS_empty {z : Str} (h : z.length = 0) (n : Nat) : repS z n = z := by
  obtain ⟨a⟩ := z
  have e : a = #[] := Array.size_eq_zero_iff.mp h
  subst e
  unfold repS
  rw [fold_empty]
theorem fold_size (a : Array Nat) : ∀ (n : Nat) (acc : Array Nat), ((List.replicate n a).foldl (· ++ ·) acc).size = acc.size + n * a.size
  | 0, acc => by simp
  | n + 1, acc => by rw [List.replicate_succ, List.foldl_cons, fold_size a n, Array.size_append, Nat.succ_mul]; omega
theorem repS_len (z : Str) (n : Nat) : (repS z n).length = n * z.length := by
  show ((List.replicate n z.cps).foldl (· ++ ·) #[]).size = _
  rw [fold_size]
  show 0 + n * z.length = _
  omega
def rTimesS : R2 := fun x y H Q => ∃ z k, x = .str z ∧ y = .int k ∧ -(2 ^ 63) ≤ k ∧ k < 2 ^ 63 ∧ z.length * k.toNat ≤ sizeLine ∧ Q (.str (repS z k.toNat)) H
theorem op_timesS {X : Cx} : OpR X (binaryOp .Mult) rTimesS := by
  rintro pins s σ H _ _ v u Q I rx ry ⟨z, k, rfl, rfl, lo, hi, few, q⟩
  obtain ⟨t, rfl⟩ := rx
  obtain ⟨t', rfl⟩ := ry
  have sl := sizeLine_eq
  refine PySem.P.mul_str ?_ (fun h1 _ h3 => ?_) (fun _ _ => ?_) ?_
  · rw [decide_eq_false (by omega), decide_eq_false (by omega)]; rfl
  · have hk : 0 < k := by omega
    have hm : (z.length : Int) * k ≤ 2 ^ 63 - 1 := by
      have : ((z.length * k.toNat : Nat) : Int) = (z.length : Int) * k := by rw [Int.natCast_mul, Int.toNat_of_nonneg (by omega)]
      omega
    have := (Int.le_ediv_iff_mul_le hk).mpr hm
    omega
  · exact decide_eq_false (by omega)
  · by_cases h1 : k < 1
    · rw [if_pos h1]
      refine ⟨by decide, .str Str.empty, H, I.tok _, ⟨_, rfl⟩, ?_⟩
      have : k.toNat = 0 := by omega
      rw [this, repS_none] at q
      exact q
    · rw [if_neg h1]
      by_cases h2 : (k == 1 || z.length == 0) = true
      · rw [if_pos h2]
        refine ⟨.str z, H, I, ⟨_, rfl⟩, ?_⟩
        have : repS z k.toNat = z := by
          rw [Bool.or_eq_true, beq_iff_eq, beq_iff_eq] at h2
          rcases h2 with rfl | h2
          · exact repS_one z
          · exact repS_empty h2 _
        rw [this] at q
        exact q
      · rw [if_neg h2]
        refine ⟨?_, .str (repS z k.toNat), H, I.tok _, ⟨_, rfl⟩, q⟩
        show (repS z k.toNat).length ≤ sizeLine
        rw [repS_len, Nat.mul_comm]; exact few
def mulW : D → D → Option S
  | .str z, .int k => if z.length * k.toNat ≤ 100000 ∧ -(2 ^ 63) ≤ k ∧ k < 2 ^ 63 then some (.d (.str (repS z k.toNat))) else none
  | x, y => mulF x y
section
variable {Z : Zt} {X : Cx}
def rMulW : R2 := fun x y H Q => rI CMul (fun i j => .int (i * j)) x y H Q ∨ rTimesS x y H Q
theorem op_mulW9 : OpR X (binaryOp .Mult) rMulW := op_mul.or op_timesS
theorem ok_mulW : Ok2 Z rMulW mulW := fun F H x y v w s Q sm p q e k => by
  by_cases c : ∃ z j, x = .str z ∧ y = .int j
  · obtain ⟨z, j, rfl, rfl⟩ := c
    unfold mulW at e
    simp only at e
    split at e
    · rename_i h
      cases e
      exact .inr ⟨z, j, pk_str p, pk_int q, h.2.1, h.2.2, line_of h.1, k.dat sm DA.str⟩
    · cases e
  · refine .inl (ok_mul F H x y v w s Q sm p q ?_ k)
    cases x <;> cases y <;> first | exact e | exact absurd ⟨_, _, rfl, rfl⟩ c
end
end

section
abbrev ByNames (fd : FuncData) (K : PySem.W.Frag) (ps : List Str) (n : Nat) (ks : List Str) (ix : List Nat) : Prop := KBn K fd ps n ks (fun us ws => us ++ pick ix ws) (fun us ws => us ++ pick ix ws)
structure CalK (P : Program) (w : World) (K : PySem.W.Frag) (mg : Str → Option Value) (base : Heap) (CX : CXT) (k : Nat) (x : Str) (ks : List Str) (ix : List Nat) (sp : Sp) : Prop where
  ex : ∃ (f : Addr) (fd : FuncData) (ps : List Str), FnOk P w K mg base CX k f fd ps sp ∧ mg x = some (.ref f) ∧ PySem.W.keepIn K (.ref f) = true ∧ ByNames fd K ps 0 ks ix
structure MakK (P : Program) (w : World) (K : PySem.W.Frag) (mg : Str → Option Value) (base : Heap) (CX : CXT) (k : Nat) (x : Str) (C : Addr) (ks : List Str) (ix : List Nat) (sp : Sp) : Prop where
  ex : ∃ (f : Addr) (fd : FuncData) (ps : List Str), Mk K C f ∧ FnOk P w K mg base CX k f fd ps sp ∧ mg x = some (.ref C) ∧ ByNames fd K ps 1 ks ix
section
variable {X : Cx} {Zc : CXT} {k j : Nat} {C : Addr} {x : Str} {ks : List Str} {ix : List Nat} {sp : Sp} {E : L2.St → XK} {p pos : Pos} {kws : List Keyword} {t : TA}
abbrev AllNamed (X : Cx) (pos : Pos) (kws : List Keyword) : Prop := (backToKw pos (keywordEach kws X.env)).all (·.1.isSome) = true
abbrev TheNames (X : Cx) (pos : Pos) (kws : List Keyword) (ks : List Str) : Prop := (backToKw pos (keywordEach kws X.env)).filterMap (·.1) = ks
abbrev NoMore (X : Cx) (pos : Pos) (kws : List Keyword) : Prop := ((backTo pos (starEach [] X.env)).any (·.1) || (backToKw pos (keywordEach kws X.env)).any (·.1.isNone)) = false
def tNamed (nk : Nat) (ix : List Nat) (sp : Sp) (E : L2.St → XK) (t : TA) : TE := fun σ H Q => t σ H fun vs H1 => vs.length = nk ∧ sp (pick ix vs) H1 Q (E σ)
theorem pe_cN (c : CalK X.prog X.w X.K X.mg X.base Zc k x ks ix sp) (hr : Room j X.A) (hk : k ≤ j) (hx : ∀ σ, PassesAt Zc X σ (E σ)) (hg : Gl X x) (ha : PK X kws t)
    (hdb : NotDbg x := by decide) (hall : AllNamed X pos kws := by rfl) (hks : TheNames X pos kws ks := by rfl) (hpl : NoMore X pos kws := by rfl) :
    PE X (.Call (.Name x p) [] kws pos) (tNamed ks.length ix sp E t) := by
  obtain ⟨f, fd, ps, F, hm, kp, b⟩ := c.ex
  refine ⟨fun pins s σ H Q I h => wpAny_Call_Name_kw (ld_glob I hg hm (PySem.W.callWith_KW0 (first := []) (h₀ := X.base) I.ok.mod.kin kp hall (thn (ha.run pos pins s σ H _ I h) fun ws s2 hh => ?_) hpl) hdb)⟩
  obtain ⟨vs, H2, I2, r, l2, q2⟩ := hh
  rw [hks]
  have b2 := b.to s2 [] ws I2.kIn rfl (r.length.symm.trans l2)
  refine ⟨I2.kIn, wpAny_call (codeAny_mono (F.run X.A X.stack s2 H2 _ _ (pick ix vs) Q (E σ) (hr.mono hk) I2.env0 b2 (Vals.pick r ix) q2) fun z s' hz => ?_)⟩
  cases z with
  | error e => exact hx σ pins H2 s2 e s' I2 hz
  | ok fl =>
    cases fl with
    | ret u => exact I2.after hz
    | next => cases hz
    | brk => cases hz
    | cont => cases hz
def tMadeN (C : Addr) (nk : Nat) (ix : List Nat) (sp : Sp) (E : L2.St → XK) (t : TA) : TE := tMakeS C sp E fun σ H R => t σ H fun vs H1 => vs.length = nk ∧ R (pick ix vs) H1
theorem pe_mN (c : MakK X.prog X.w X.K X.mg X.base Zc k x C ks ix sp) (hr : Room j X.A) (hk : k + 1 ≤ j) (hx : ∀ σ, PassesAt Zc X σ (E σ)) (hg : Gl X x) (ha : PK X kws t)
    (hdb : NotDbg x := by decide) (hall : AllNamed X pos kws := by rfl) (hks : TheNames X pos kws ks := by rfl) (hpl : NoMore X pos kws := by rfl) :
    PE X (.Call (.Name x p) [] kws pos) (tMadeN C ks.length ix sp E t) := by
  obtain ⟨f, fd, ps, M, F, hm, b⟩ := c.ex
  refine ⟨fun pins s σ H Q I h => wpAny_Call_Name_kw (ld_glob I hg hm (PySem.W.callWith_KW0 (first := []) (h₀ := X.base) I.ok.mod.kin M.kp hall (thn (ha.run pos pins s σ H _ I h) fun ws s2 hh => ?_) hpl) hdb)⟩
  obtain ⟨vs, H2, I2, r, l2, q2⟩ := hh
  rw [hks]
  refine ⟨I2.kIn, ?_⟩
  obtain ⟨me, hme⟩ : ∃ me, me = s2.heap.objs.size + 1 := ⟨_, rfl⟩
  have goal := q2 me s2.heap.objs.size (hme ▸ I2.hok.fresh (Nat.le_succ _)) (I2.hok.fresh (Nat.le_refl _)) (hme ▸ Nat.ne_of_lt (Nat.lt_succ_self _))
  subst hme
  have I3 := Inv.made (C := C) I2
  have b3 := b.to _ [.ref (s2.heap.objs.size + 1)] ws I3.kIn rfl (r.length.symm.trans l2)
  have room := hr.mono hk
  refine wpAny_call (make_map (f := f) I2.kIn M.makes M.init (beq_iff_eq.mp M.fn) (codeAny_mono (F.run _ X.stack _ _ _ _ (.ref (s2.heap.objs.size + 1) :: pick ix vs) _ (E σ) (room.make C [] _) (I3.env0.make C [] _) b3 (.cons rfl (Vals.pick r ix)) goal) fun z s' hz => ?_))
  cases z with
  | error e => exact hx σ pins _ _ e s' I3 hz
  | ok fl =>
    cases fl with
    | ret u =>
      obtain ⟨v, H', I4, rv, ev, q3⟩ := I3.after hz
      cases ev
      exact ⟨rv, .ref (s2.heap.objs.size + 1), H', I4, rfl, q3⟩
    | next => cases hz
    | brk => cases hz
    | cont => cases hz
end
section
variable {Z : Zt} {W : WX} {X : Cx} {CT : CXT} {k j c n : Nat} {x nm : Str} {fs ks : List Str} {ix : List Nat} {m : List S → Rs S} {g : En → Rs (List Hd)} {kws : List Keyword} {p pos : Pos}
theorem kar_in {nk : Nat} {R : List V → Hp → Prop} {σ : L2.St} {H : Hp} (h : dA Z W (kar nk ix g) σ H R) : dA Z W g σ H fun vs H1 => vs.length = nk ∧ R (pick ix vs) H1 := by
  obtain ⟨F, ρ, ea, q⟩ := h
  unfold kar at q
  refine ⟨F, ρ, ea, q.bind.mono fun hs ρ2 F2 H2 st2 e2 q2 vs hvs => ?_⟩
  by_cases c : hs.length = nk
  · rw [if_pos c] at q2
    exact ⟨c ▸ hds_len hvs, q2.here e2 _ (hds_pick hvs ix)⟩
  · rw [if_neg c] at q2; exact q2.elim
theorem d_callN (cm : CalK X.prog X.w X.K X.mg X.base CT k x ks ix (spD Z.K n m)) (hr : Room j X.A) (hk : k ≤ j) (hx : ∀ σ, PassesAt CT X σ (WE W σ)) (hg : Gl X x) (ha : DRK X Z W kws g)
    (hdb : NotDbg x := by decide) (hall : AllNamed X pos kws := by rfl) (hks : TheNames X pos kws ks := by rfl) (hpl : NoMore X pos kws := by rfl) :
    DF X Z W (.Call (.Name x p) [] kws pos) (callf n m (kar ks.length ix g)) := ⟨pe_imp (pe_cN cm hr hk hx hg ha.pk hdb hall hks hpl) fun σ H Q q => kar_in (call_in (W := W) σ H Q q)⟩
theorem d_makeN (hc : Z.K.ct[c]? = some (nm, fs)) (cm : MakK X.prog X.w X.K X.mg X.base CT k x (He.ga Z.K.K nm) ks ix (spD Z.K n m)) (hr : Room j X.A) (hk : k + 1 ≤ j) (hx : ∀ σ, PassesAt CT X σ (WE W σ)) (hg : Gl X x) (ha : DRK X Z W kws g)
    (hdb : NotDbg x := by decide) (hall : AllNamed X pos kws := by rfl) (hks : TheNames X pos kws ks := by rfl) (hpl : NoMore X pos kws := by rfl) :
    DF X Z W (.Call (.Name x p) [] kws pos) (mkf c n m (kar ks.length ix g)) := ⟨pe_imp (pe_mN cm hr hk hx hg ha.pk hdb hall hks hpl) fun σ H Q q => kar_in (mk_in (W := W) hc σ H Q q)⟩
end
end

section
def flD : D → Bool
  | .non => true | .bl _ => true | .int _ => true | .str _ => true | _ => false
def flV : D → V
  | .bl b => .bl b | .int i => .int i | .str s => .str s | _ => .non
mutual
def eqD : D → D → Bool
  | .tup xs, y => (match y with | .tup ys => eqDs xs ys | _ => false)
  | .lst xs, y => (match y with | .lst ys => eqDs xs ys | _ => false)
  | .obj c xs, y => (match y with | .obj c' ys => decide (c = c') && eqDs xs ys | _ => false)
  | .non, y => (deq .non y).getD false
  | .bl b, y => (deq (.bl b) y).getD false
  | .int i, y => (deq (.int i) y).getD false
  | .str s, y => (deq (.str s) y).getD false
  | .dct _ _, _ => false
  | .dtt _ _, _ => false
def eqDs : List D → List D → Bool
  | [], ys => (match ys with | [] => true | _ :: _ => false)
  | x :: xs, ys => (match ys with | [] => false | y :: ys => eqD x y && eqDs xs ys)
end
/- what may be asked -/
mutual
def cmpq (cs : List (Nat × Nat)) : D → D → Bool
  | .tup xs, y => (match y with | .tup ys => cmpqs cs xs ys | _ => false)
  | .lst xs, y => (match y with | .lst ys => cmpqs cs xs ys | _ => false)
  | .obj c xs, y => (match y with | .obj c' ys => (cs.lookup c == some xs.length) && ((cs.lookup c' == some ys.length) && (!decide (c = c') || cmpqs cs xs ys)) | _ => false)
  | .non, y => flD y && (deq .non y).isSome
  | .bl b, y => flD y && (deq (.bl b) y).isSome
  | .int i, y => flD y && (deq (.int i) y).isSome
  | .str s, y => flD y && (deq (.str s) y).isSome
  | .dct _ _, _ => false
  | .dtt _ _, _ => false
def cmpqs (cs : List (Nat × Nat)) : List D → List D → Bool
  | [], _ => true
  | x :: xs, ys => (match ys with | [] => true | y :: ys => cmpq cs x y && cmpqs cs xs ys)
end
section
variable {kt : Kt} {cs : List (Nat × Nat)} {h : Nat}
def TB (kt : Kt) (cs : List (Nat × Nat)) (h : Nat) : Tell := fun r x y H => ∃ d e, cmpq cs d e = true ∧ hgt d ≤ h ∧ r = eqD d e ∧ DA kt H d x ∧ DA kt H e y
def TBR (kt : Kt) (cs : List (Nat × Nat)) (h : Nat) : Tell := fun r x y H => ∃ d e, isR d = true ∧ cmpq cs d e = true ∧ hgt d ≤ h ∧ r = eqD d e ∧ DA kt H d x ∧ DA kt H e y
theorem TB.mon : TMon (TB kt cs h) := fun r x y H H' ex ⟨d, e, c, l, q, a, b⟩ => ⟨d, e, c, l, q, a.mono ex, b.mono ex⟩
theorem rowT_tb {H : Hp} : ∀ {xs ys : List D} {vs ws : List V}, cmpqs cs xs ys = true → hgts xs ≤ h → DAs kt H xs vs → DAs kt H ys ws → RowT (TB kt cs h) H (eqDs xs ys) vs ws
  | [], [], vs, ws, _, _, a, b => by rw [a.nil', b.nil']; exact .done
  | [], y :: ys, vs, ws, _, _, a, b => by
    obtain ⟨w, ws, rfl, b1, b2⟩ := b.cons'
    rw [a.nil']; exact .short
  | x :: xs, [], vs, ws, _, _, a, b => by
    obtain ⟨v, vs, rfl, a1, a2⟩ := a.cons'
    rw [b.nil']; exact .long
  | x :: xs, y :: ys, vs, ws, o, l, a, b => by
    obtain ⟨v, vs, rfl, a1, a2⟩ := a.cons'
    obtain ⟨w, ws, rfl, b1, b2⟩ := b.cons'
    simp only [cmpqs, Bool.and_eq_true] at o
    simp only [hgts] at l
    have q : TB kt cs h (eqD x y) v w H := ⟨x, y, o.1, by omega, rfl, a1, b1⟩
    have more := rowT_tb o.2 (by omega) a2 b2
    cases e : eqD x y with
    | true => rw [e] at q; simp only [eqDs, e, Bool.true_and]; exact .on q more
    | false => rw [e] at q; simp only [eqDs, e, Bool.false_and]; exact .off q
theorem das_len {H : Hp} : ∀ {xs : List D} {vs : List V}, DAs kt H xs vs → vs.length = xs.length
  | [], vs, a => by rw [a.nil']; rfl
  | x :: xs, vs, a => by
    obtain ⟨v, vs, rfl, _, a2⟩ := a.cons'
    simp [das_len a2]
theorem eqDs_ne : ∀ {xs ys : List D}, xs.length ≠ ys.length → eqDs xs ys = false
  | [], [], n => (n rfl).elim
  | [], _ :: _, _ => rfl
  | _ :: _, [], _ => rfl
  | x :: xs, y :: ys, n => by
    simp only [eqDs]
    rw [eqDs_ne (fun z => n (by simp [z])), Bool.and_false]
theorem row2_tb {H : Hp} : ∀ {xs ys : List D} {vs ws : List V}, xs.length = ys.length → cmpqs cs xs ys = true → hgts xs ≤ h → DAs kt H xs vs → DAs kt H ys ws → Row2 (TB kt cs h) H (eqDs xs ys) vs ws
  | [], [], vs, ws, _, _, _, a, b => by rw [a.nil', b.nil']; exact .done
  | x :: xs, y :: ys, vs, ws, n, o, l, a, b => by
    obtain ⟨v, vs, rfl, a1, a2⟩ := a.cons'
    obtain ⟨w, ws, rfl, b1, b2⟩ := b.cons'
    simp only [cmpqs, Bool.and_eq_true] at o
    simp only [hgts] at l
    simp only [List.length_cons, Nat.add_right_cancel_iff] at n
    have q : TB kt cs h (eqD x y) v w H := ⟨x, y, o.1, by omega, rfl, a1, b1⟩
    have more := row2_tb n o.2 (by omega) a2 b2
    cases e : eqD x y with
    | true => rw [e] at q; simp only [eqDs, e, Bool.true_and]; exact .on q more
    | false => rw [e] at q; simp only [eqDs, e, Bool.false_and]; exact .off q (by rw [das_len a2, das_len b2, n])
theorem rows2_tb {H : Hp} {xs ys : List D} {vs ws : List V} (o : cmpqs cs xs ys = true) (l : hgts xs ≤ h) (a : DAs kt H xs vs) (b : DAs kt H ys ws) : Rows2 (TB kt cs h) H (eqDs xs ys) vs ws := by
  by_cases n : xs.length = ys.length
  · exact .inl (row2_tb n o l a b)
  · exact .inr ⟨by rw [das_len a, das_len b]; exact n, eqDs_ne n⟩
theorem fl_da {d : D} {v : V} {H : Hp} (f : flD d = true) (a : DA kt H d v) : v = flV d ∧ flatV v = true := by
  cases d <;> first | (simp [flD] at f; done) | (unfold DA at a; subst a; exact ⟨rfl, by simp [flatV]⟩)
theorem fl_eqv {d e : D} {b : Bool} (f : flD d = true) (g : flD e = true) (q : deq d e = some b) : eqV (flV d) (flV e) = b := by
  cases d <;> first | (simp [flD] at f; done) | (cases e <;> first | (simp [flD] at g; done) | (simp [deq] at q; done) | (simp only [deq, Option.some.injEq] at q; subst q; first | rfl | (simp [flV, eqV]; done) | (simp [flV, eqV, Bool.beq_eq_decide_eq]; done)) | (simp [deq, toPy, SeqAt.shaped, PyData.eqv] at q; obtain ⟨_, q⟩ := q; subst q; simp [flV, eqV]; done))
/-- two classes: their things are no things of each other's -/
def Aparts (kt : Kt) (cs : List (Nat × Nat)) : Prop := ∀ c c' k k' nm nm' fs fs', cs.lookup c = some k → cs.lookup c' = some k' → c ≠ c' → kt.ct[c]? = some (nm, fs) → kt.ct[c']? = some (nm', fs') → PySem.W.kitOne kt.K (.ref (He.ga kt.K nm')) (.ref (He.ga kt.K nm)) = some false
theorem kit_apart {K : PySem.W.Frag} {C C' : Addr} (e : PySem.W.kitOne K (.ref C') (.ref C) = some false) : C' ≠ C ∧ PySem.W.subIn K (.ref C') (.ref C) = some false := by
  have n : C' ≠ C := fun z => by subst z; simp [PySem.W.kitOne] at e
  refine ⟨n, ?_⟩
  have n' : (Value.ref C' == Value.ref C) = false := by simp [n]
  simp only [PySem.W.kitOne, n', PySem.W.kitCls, Bool.false_eq_true, if_false] at e
  split at e
  · exact e
  · cases e
theorem relV_one {x y : V} {u : Value} (r : RelV x u) (q : RelV y u) : x = y := Option.some.inj (r.abs.symm.trans q.abs)
theorem vals_one : ∀ {xs ys : List V} {us : List Value}, Vals xs us → Vals ys us → xs = ys
  | [], ys, _, .nil, q => by cases q; rfl
  | x :: xs, ys, _, .cons r p, q => by
    cases q with
    | cons r' q => rw [relV_one r r', vals_one p q]
section
variable {X : Cx} {pins : List (Addr × Obj)} {σ : L2.St} {H : Hp} {s : Shared}
theorem tup_one (I : L2.Inv X pins σ H s) {a : Addr} {xs ys : List V} (p : SqT X.K H a xs) (q : SqT X.K H a ys) : xs = ys := by
  obtain ⟨us, ru, ⟨o, e, _, m, d⟩, _⟩ := I.tuple p
  obtain ⟨ws, rw', ⟨o', e', _, m', d'⟩, _⟩ := I.tuple q
  rw [e] at e'
  cases e'
  rw [d] at d'
  injection d' with z _
  have z : us = ws := by simpa using z
  subst z
  exact vals_one ru rw'
theorem lst_one (I : L2.Inv X pins σ H s) {a : Addr} {xs ys : List V} (p : SqL X.K H a xs) (q : SqL X.K H a ys) : xs = ys := by
  obtain ⟨us, ru, ⟨o, m, e, _, _, d⟩, _⟩ := I.list p
  obtain ⟨ws, rw', ⟨o', m', e', _, _, d'⟩, _⟩ := I.list q
  rw [e] at e'
  cases e'
  rw [d] at d'
  injection d' with z _
  have z : us = ws := by simpa using z
  subst z
  exact vals_one ru rw'
theorem zip_one : ∀ {fs : List Str} {vs ws : List V}, fs.zip vs = fs.zip ws → vs.length = ws.length → vs.length ≤ fs.length → vs = ws
  | _, [], [], _, _, _ => rfl
  | f :: fs, v :: vs, w :: ws, e, l, n => by
    simp only [List.zip_cons_cons, List.cons.injEq, Prod.mk.injEq, true_and] at e
    simp only [List.length_cons] at l n
    rw [e.1, zip_one e.2 (by omega) (by omega)]
  | [], v :: vs, _, _, _, n => by simp at n
  | _, [], _ :: _, _, l, _ => by simp at l
  | _ :: _, _ :: _, [], _, l, _ => by simp at l
/- the same thing is equal to itself, whatever is told of it -/
mutual
theorem da_one (I : L2.Inv X pins σ H s) (hK : kt.K = X.K) (ap : Aparts kt cs) : ∀ (d e : D) {v : V}, cmpq cs d e = true → DA kt H d v → DA kt H e v → eqD d e = true
  | .tup xs, e, v, c, a, b => by
    cases e with
    | tup ys =>
      obtain ⟨p, vs, rfl, p1, p2⟩ := a.tup'
      obtain ⟨p', ws, e', g1, g2⟩ := b.tup'
      cases e'
      rw [hK] at p1 g1
      obtain rfl := tup_one I p1 g1
      exact das_one I hK ap xs ys c p2 g2
    | _ => cases c
  | .lst xs, e, v, c, a, b => by
    cases e with
    | lst ys =>
      obtain ⟨p, vs, rfl, p1, p2⟩ := a.lst'
      obtain ⟨p', ws, e', g1, g2⟩ := b.lst'
      cases e'
      rw [hK] at p1 g1
      obtain rfl := lst_one I p1 g1
      exact das_one I hK ap xs ys c p2 g2
    | _ => cases c
  | .obj c xs, e, v, q, a, b => by
    cases e with
    | obj c' ys =>
      simp only [cmpq, Bool.and_eq_true, beq_iff_eq] at q
      obtain ⟨q1, q2, q3⟩ := q
      unfold DA at a b
      obtain ⟨nm, fs, p, dx, vs, hc, rfl, k1, l1, a2⟩ := a
      obtain ⟨nm', fs', p', dx', ws, hc', e', k2, l2, b2⟩ := b
      cases e'
      rw [k1] at k2
      by_cases z : c = c'
      · subst z
        rw [hc] at hc'
        cases hc'
        simp only [Option.some.injEq] at k2
        injection k2 with _ _ k3
        have lx := das_len a2
        have ly := das_len b2
        have same : xs.length = ys.length := Option.some.inj (q1.symm.trans q2)
        obtain rfl := zip_one k3 (by omega) (by omega)
        simp only [decide_true, Bool.not_true, Bool.false_or] at q3
        simp only [eqD, decide_true, Bool.true_and]
        exact das_one I hK ap xs ys q3 a2 b2
      · have n := (kit_apart (ap c c' _ _ nm nm' fs fs' q1 q2 z hc hc')).1
        simp only [Option.some.injEq] at k2
        injection k2 with k3 _ _
        exact (n k3.symm).elim
    | _ => cases q
  | .non, e, v, c, a, b => by
    simp only [cmpq, Bool.and_eq_true, Option.isSome_iff_exists] at c
    obtain ⟨f, r, c⟩ := c
    have g := fl_da f b
    have g' := fl_da (d := .non) rfl a
    have t := fl_eqv (d := .non) rfl f c
    rw [← g.1, ← g'.1] at t
    simp only [eqD, c, Option.getD_some, ← t]
    rw [g'.1]; simp [flV, eqV]
  | .bl x, e, v, c, a, b => by
    simp only [cmpq, Bool.and_eq_true, Option.isSome_iff_exists] at c
    obtain ⟨f, r, c⟩ := c
    have g := fl_da f b
    have g' := fl_da (d := .bl x) rfl a
    have t := fl_eqv (d := .bl x) rfl f c
    rw [← g.1, ← g'.1] at t
    simp only [eqD, c, Option.getD_some, ← t]
    rw [g'.1]; simp [flV, eqV]
  | .int x, e, v, c, a, b => by
    simp only [cmpq, Bool.and_eq_true, Option.isSome_iff_exists] at c
    obtain ⟨f, r, c⟩ := c
    have g := fl_da f b
    have g' := fl_da (d := .int x) rfl a
    have t := fl_eqv (d := .int x) rfl f c
    rw [← g.1, ← g'.1] at t
    simp only [eqD, c, Option.getD_some, ← t]
    rw [g'.1]; simp [flV, eqV]
  | .str x, e, v, c, a, b => by
    simp only [cmpq, Bool.and_eq_true, Option.isSome_iff_exists] at c
    obtain ⟨f, r, c⟩ := c
    have g := fl_da f b
    have g' := fl_da (d := .str x) rfl a
    have t := fl_eqv (d := .str x) rfl f c
    rw [← g.1, ← g'.1] at t
    simp only [eqD, c, Option.getD_some, ← t]
    rw [g'.1]; simp [flV, eqV]
  | .dct _ _, e, v, c, a, b => by cases c
  | .dtt _ _, e, v, c, a, b => by cases c
theorem das_one (I : L2.Inv X pins σ H s) (hK : kt.K = X.K) (ap : Aparts kt cs) : ∀ (xs ys : List D) {vs : List V}, cmpqs cs xs ys = true → DAs kt H xs vs → DAs kt H ys vs → eqDs xs ys = true
  | [], [], _, _, _, _ => rfl
  | [], y :: ys, vs, _, a, b => by have := das_len a; have := das_len b; simp_all
  | x :: xs, [], vs, _, a, b => by have := das_len a; have := das_len b; simp_all
  | x :: xs, y :: ys, vs, c, a, b => by
    obtain ⟨v, vs, rfl, a1, a2⟩ := a.cons'
    obtain ⟨w, ws, e, b1, b2⟩ := b.cons'
    cases e
    simp only [cmpqs, Bool.and_eq_true] at c
    simp only [eqDs, da_one I hK ap x y c.1 a1 b1, das_one I hK ap xs ys c.2 a2 b2, Bool.and_self]
end
end
end
end

section
/-- != of two things of different classes, by the first one's own == -/
theorem rc_neTwo {prog : Program} {w : World} {A : Around} {E : Value → Shared → Prop} {s : Shared} {K : PySem.W.Frag} {x y C C' f : Addr} {ox oy : Obj} {od od' : Option Obj} {Q : Value → Shared → Prop}
    (hu : A.units + 1 < cLine) (X : K.In s.heap) (I : PySem.W.InstAt s.heap x ox C od) (J : PySem.W.InstAt s.heap y oy C' od') (ne : C' ≠ C) (sub : PySem.W.subIn K (.ref C') (.ref C) = some false) (hm : PySem.W.mroIn K C (.type "object") = some true) (he : PySem.W.findIn K (.ref C) "__eq__" = some (some (.ref f))) (hs : PySem.W.findIn K (.ref C) "__ne__" = some (some (.builtin "object.__ne__"))) (hf : PySem.W.isFn K (.ref f) = true)
    (h : wpAny (model prog w) A.in1 (call (.ref f) [.ref x, .ref y]) (fun v s' => ∃ c, v = .bool c ∧ Q (.bool !c) s') E s) :
    wpAny (model prog w) A (richCompare .NotEq (.ref x) (.ref y)) Q E s := by
  have two : (Value.ref C != Value.ref C') = true := by
    have : (Value.ref C == Value.ref C') = false := by simp [Ne.symm ne]
    simp [bne, this]
  unfold richCompare
  refine wpAny_holding (wpAny_bind (wpAny_cRoomFor (by omega) (wpAny_bind (PySem.W.Looks.here I.type (wpAny_bind (PySem.W.Looks.here J.type ?_))))))
  rw [if_pos two]
  refine wpAny_bind (PySem.W.Looks.here (PySem.W.looks_subIn X sub) (wpAny_bind ?_))
  refine wpAny_bind (ifBound_ne X I hs (call_ne hu X I hm he hf (wpAny_mono h (fun v s' h' => ?_) fun _ _ q => q)))
  obtain ⟨c, rfl, q⟩ := h'
  exact ⟨c, rfl, wpAny_pure (wpAny_pure q)⟩
section
variable {X : Cx} {n : Nat}
def TTwo (C C' : Addr) (sp : Sp) (E : XK) : Tell := fun r x y H => ∃ a b dx dy fs gs, x = .ref a ∧ y = .ref b ∧ H a = some (.ins C dx fs) ∧ H b = some (.ins C' dy gs) ∧ spB sp E x y H fun c H' => c = r ∧ Ext H H'
theorem ansR_two {CX : CXT} {k : Nat} {C C' : Addr} {sp : Sp} {E : XK} (c : OwnE X.prog X.w X.K X.mg X.base CX k C sp) (hx : Passes CX X E) (hk : k + 1 ≤ n) (ap : PySem.W.kitOne X.K (.ref C') (.ref C) = some false) : AnsR X n (TTwo C C' sp E) := by
  intro w r A pins σ H x y t s u v ru rv I sb
  obtain ⟨ne, sub⟩ := kit_apart ap
  obtain ⟨f, fd, ps, F, hs, hf, hb, hs', hm, _⟩ := c.ex
  obtain ⟨a, b, dx, dy, fs, gs, rfl, rfl, ha, hb', h⟩ := t
  cases ru
  cases rv
  obtain ⟨_, J, _⟩ := ins_get I.hok ha
  obtain ⟨_, J, _⟩ := J.look
  obtain ⟨_, J', _⟩ := ins_get I.hok hb'
  obtain ⟨_, J', _⟩ := J'.look
  have sb' : L2.Sub X (k + 1) A := sb.mono hk
  cases w
  · refine rc_neTwo (by have := sb.room.un; omega) I.kIn J J' ne sub hm hs hs' hf ?_
    refine wpAny_mono (run_own F hb hx sb'.in1.room sb'.in1.fr I (x := .ref a) (y := .ref b) rfl rfl h) (fun q s' z => ?_) fun _ _ q => q
    obtain ⟨c, e, H', I', z1, z2⟩ := z
    exact ⟨c, e, by rw [z1]; rfl, H', I', z2⟩
  · obtain ⟨m, hF⟩ := I.fr
    have other : PySem.W.notFirst X.K C (.ref C') = true := by simp [PySem.W.notFirst, sub]
    refine PySem.W.cmp_K (op := .Eq) sb.room.units0 hF I.ok.mod.kin J J'.type other hs hf ?_
    refine wpAny_mono (run_own F hb hx (sb'.mono (Nat.le_succ k)).room sb'.fr I (x := .ref a) (y := .ref b) rfl rfl h) (fun q s' z => ?_) fun _ _ q => q
    obtain ⟨c, e, H', I', z1, z2⟩ := z
    subst e z1
    exact ⟨rfl, H', I', z2⟩
end
section
variable {kt : Kt} {cs : List (Nat × Nat)} {h : Nat}
theorem isR_ref {d : D} {x : V} {H : Hp} (q : isR d = true) (a : DA kt H d x) : ∃ p, x = .ref p := by
  cases d with
  | tup xs => obtain ⟨p, _, e, _⟩ := a.tup'; exact ⟨p, e⟩
  | lst xs => obtain ⟨p, _, e, _⟩ := a.lst'; exact ⟨p, e⟩
  | obj c xs => unfold DA at a; obtain ⟨_, _, p, _, _, _, e, _⟩ := a; exact ⟨p, e⟩
  | _ => cases q
theorem cmpq_R {d e : D} (c : cmpq cs d e = true) : isR e = isR d := by
  cases d <;> cases e <;> first | rfl | (cases c; done) | (simp [cmpq, flD] at c; done)
theorem cmpq_fl {d e : D} (c : cmpq cs d e = true) (q : isR d = false) : flD d = true ∧ flD e = true ∧ deq d e = some (eqD d e) := by
  cases d <;> first | (cases q; done) | (cases c; done) | (
    simp only [cmpq, Bool.and_eq_true, Option.isSome_iff_exists] at c
    obtain ⟨f, r, c⟩ := c
    exact ⟨rfl, f, by simp only [eqD, c, Option.getD_some]⟩)
theorem answers_tb {X : Cx} {n : Nat} (hK : kt.K = X.K) (ap : Aparts kt cs) (a : AnsR X n (TBR kt cs h)) : Answers X n (TB kt cs h) := by
  intro r A pins σ H x y t s u v ru rv I sb
  obtain ⟨d, e, c, l, rfl, da, db⟩ := t
  cases q : isR d with
  | false =>
    obtain ⟨f, g, z⟩ := cmpq_fl c q
    obtain ⟨rfl, f1⟩ := fl_da f da
    obtain ⟨rfl, g1⟩ := fl_da g db
    exact answers_flat _ A pins σ H _ _ ⟨f1, g1, fl_eqv f g z⟩ s u v ru rv I sb
  | true =>
    obtain ⟨p, rfl⟩ := isR_ref q da
    obtain ⟨p', rfl⟩ := isR_ref ((cmpq_R c).trans q) db
    have ask := a true _ A pins σ H _ _ ⟨d, e, q, c, l, rfl, da, db⟩ s u v ru rv I sb
    cases ru
    cases rv
    by_cases z : p = p'
    · subst z
      rw [da_one I hK ap d e c da db]
      exact PySem.SeqAt.EqAt.same (A := A) (s := s) (.ref p) X.prog X.w X.xe _ ⟨rfl, H, I, Ext.rfl'⟩
    · exact GQ.eqBool_refG z (wpAny_mono ask (fun q s' z => ⟨_, z.1, rfl, z.2⟩) fun _ _ z => z)
theorem spD_two {K : Kt} {m : List S → Rs S} {d e : D} {b : Bool} {ρ : En} {x y : V} {H : Hp} {E : XK} (t : m [.d d, .d e] = .ok (.d (.bl b)) ρ) (a : DA K H d x) (a' : DA K H e y) : spB (spD K 2 m) E x y H fun c H' => c = b ∧ Ext H H' := by
  have none : ∀ i p, ¬ OwnI [some x, some y] [S.d d, S.d e] i p := fun i p z => by
    obtain ⟨_, s, at_, o⟩ := z
    rcases i with _ | _ | i
    · simp at at_; subst at_; cases o
    · simp at at_; subst at_; cases o
    · simp at at_
  refine ⟨rfl, H, [.d d, .d e], ⟨Same.refl _, rfl, fun i s z => ?_, fun i j p z _ => (none i p z).elim⟩, ?_⟩
  · rcases i with _ | _ | i
    · simp at z; subst z; exact ⟨x, rfl, a⟩
    · simp at z; subst z; exact ⟨y, rfl, a'⟩
    · simp at z
  · rw [t]
    intro F' H' st ea v ra
    obtain ⟨⟨w, e1, e2⟩, _⟩ := ra
    cases e1
    exact ⟨b, da_bl e2, rfl, fun p o z => st.keep p o z fun i q => none i p q⟩
/-- what holds at each height, wherever the program runs: both answers -/
def EqAllB (P : Program) (w : World) (K : PySem.W.Frag) (mg : Str → Option Value) (base : Heap) (kt : Kt) (cs : List (Nat × Nat)) (n : Nat) : Prop :=
  ∀ X : Cx, X.prog = P → X.w = w → X.K = K → X.mg = mg → X.base = base → AnsR X (3 * n + 1) (TBR kt cs n)
section
variable {P : Program} {w : World} {K : PySem.W.Frag} {mg : Str → Option Value} {base : Heap} {me : Nat → Nat → List S → Rs S}
theorem eqAllB (hK : kt.K = K) (ap : Aparts kt cs)
    (own : ∀ c k, cs.lookup c = some k → ∀ n, EqAllB P w K mg base kt cs n → ∃ nm fs, kt.ct[c]? = some (nm, fs) ∧ fs.length = k ∧ OwnE P w K mg base (L2.CX P w) (3 * n + 3) (He.ga K nm) (spD kt 2 (me c n)))
    (told : ∀ c xs c' ys n, cs.lookup c = some xs.length → cs.lookup c' = some ys.length → (c = c' → cmpqs cs xs ys = true) → hgts xs ≤ n → ∃ ρ, me c n [.d (.obj c xs), .d (.obj c' ys)] = .ok (.d (.bl (decide (c = c') && eqDs xs ys))) ρ) : ∀ n, EqAllB P w K mg base kt cs n := by
  intro n
  induction n with
  | zero =>
    intro X h1 h2 h3 h4 h5 w r A pins σ H x y t
    obtain ⟨d, e, q, _, l, _⟩ := t
    cases d <;> first | (cases q; done) | (simp [hgt] at l; done)
  | succ n ih =>
    intro X h1 h2 h3 h4 h5
    subst h1 h2 h3 h4 h5
    have A0 : Answers X (3 * n + 1) (TB kt cs n) := answers_tb hK ap (ih X rfl rfl rfl rfl rfl)
    intro w r A pins σ H x y t s u v ru rv I sb
    obtain ⟨d, e, q, c, l, rfl, a, b⟩ := t
    have sb1 : L2.Sub X (3 * n + 1 + 1) A := sb.mono (by omega)
    cases d with
    | tup xs =>
      cases e with
      | tup ys =>
        simp only [hgt] at l
        obtain ⟨p, vs, rfl, p1, p2⟩ := a.tup'
        obtain ⟨p', ws, rfl, g1, g2⟩ := b.tup'
        rw [hK] at p1 g1
        exact ansR_tup A0 TB.mon w _ A pins σ H _ _ ⟨p, p', vs, ws, rfl, rfl, p1, g1, rowT_tb c (by omega) p2 g2⟩ s u v ru rv I sb1
      | _ => cases c
    | lst xs =>
      cases e with
      | lst ys =>
        simp only [hgt] at l
        obtain ⟨p, vs, rfl, p1, p2⟩ := a.lst'
        obtain ⟨p', ws, rfl, g1, g2⟩ := b.lst'
        rw [hK] at p1 g1
        exact ansR_list A0 TB.mon w _ A pins σ H _ _ ⟨p, p', vs, ws, rfl, rfl, p1, g1, rows2_tb c (by omega) p2 g2⟩ s u v ru rv I sb1
      | _ => cases c
    | obj i xs =>
      cases e with
      | obj j ys =>
        simp only [cmpq, Bool.and_eq_true, beq_iff_eq] at c
        obtain ⟨c1, c2, c3⟩ := c
        simp only [hgt] at l
        obtain ⟨nm, fs, hc, _, ow⟩ := own i _ c1 n ih
        have c4 : i = j → cmpqs cs xs ys = true := fun z => by subst z; simpa using c3
        obtain ⟨ρ, t⟩ := told i xs j ys n c1 c2 c4 (by omega)
        have sp := spD_two (E := E0) t a b
        have a0 := a
        have b0 := b
        unfold DA at a0 b0
        obtain ⟨nm1, fs1, p, dx, vs, hc1, rfl, k1, _⟩ := a0
        obtain ⟨nm2, fs2, p', dy, ws, hc2, rfl, k2, _⟩ := b0
        rw [hc] at hc1
        cases hc1
        rw [hK] at k1 k2
        by_cases z : i = j
        · subst z
          rw [hc] at hc2
          cases hc2
          exact ansR_obj (n := 3 * (n + 1) + 1) ow passL (by omega) w _ A pins σ H _ _ ⟨p, p', dx, dy, _, _, rfl, rfl, k1, k2, sp⟩ s u v ru rv I sb
        · have k := ap i j _ _ nm nm2 _ _ c1 c2 z hc hc2
          rw [hK] at k
          exact ansR_two (n := 3 * (n + 1) + 1) ow passL (by omega) k w _ A pins σ H _ _ ⟨p, p', dx, dy, _, _, rfl, rfl, k1, k2, sp⟩ s u v ru rv I sb
      | _ => cases c
    | _ => cases q
end
/-! the operators -/
def rEqB (kt : Kt) (cs : List (Nat × Nat)) (n : Nat) : R2 := fun x y H Q => rEqA kt.K x y H Q ∨ ∃ r, TBR kt cs n r x y H ∧ ∀ H', Ext H H' → Q (.bl r) H'
def rNeB (kt : Kt) (cs : List (Nat × Nat)) (n : Nat) : R2 := fun x y H Q => rNeA kt.K x y H Q ∨ ∃ r, TBR kt cs n r x y H ∧ ∀ H', Ext H H' → Q (.bl !r) H'
theorem oEqB {X : Cx} {n j : Nat} (e : EqAllB X.prog X.w X.K X.mg X.base kt cs n) (hr : Room j X.A) (hj : 3 * n + 1 ≤ j) (hK : X.K = kt.K := by rfl) : OpR X (compareOp .Eq) (rEqB kt cs n) := by
  intro pins s σ H x y v u Q I rx ry z
  rcases z with z | ⟨r, t, k⟩
  · exact oEq kt.K hr.units hK pins s σ H x y v u Q I rx ry z
  · refine PySem.W.cmp_ofEq (wpAny_mono (e X rfl rfl rfl rfl rfl true r X.A pins σ H x y t s v u rx ry I ⟨hr.mono hj, rfl⟩) (fun q s' z => ?_) fun _ _ z => z)
    obtain ⟨rfl, H', I', ex⟩ := z
    exact ⟨.bl r, H', I', rfl, k H' ex⟩
theorem oNeB {X : Cx} {n j : Nat} (e : EqAllB X.prog X.w X.K X.mg X.base kt cs n) (hr : Room j X.A) (hj : 3 * n + 1 ≤ j) (hK : X.K = kt.K := by rfl) : OpR X (compareOp .NotEq) (rNeB kt cs n) := by
  intro pins s σ H x y v u Q I rx ry z
  rcases z with z | ⟨r, t, k⟩
  · exact oNe kt.K hr.units hK pins s σ H x y v u Q I rx ry z
  · refine PySem.W.cmp_ofNotEq (wpAny_mono (e X rfl rfl rfl rfl rfl false r X.A pins σ H x y t s v u rx ry I ⟨hr.mono hj, rfl⟩) (fun q s' z => ?_) fun _ _ z => z)
    obtain ⟨rfl, H', I', ex⟩ := z
    exact ⟨.bl !r, H', I', rfl, k H' ex⟩
/-- the answer of an ==, where one is known: of things with objects in them, whichever it is -/
def eqOB (cs : List (Nat × Nat)) (n : Nat) (x y : D) : Option Bool := if isR x && (cmpq cs x y && decide (hgt x ≤ n)) then some (eqD x y) else deq x y
def eqBF (cs : List (Nat × Nat)) (n : Nat) (x y : D) : Option S := (eqOB cs n x y).map sB
def neBF (cs : List (Nat × Nat)) (n : Nat) (x y : D) : Option S := (eqOB cs n x y).map fun b => sB (!b)
theorem eqOB_is {n : Nat} {x y : D} (c : cmpq cs x y = true) (l : hgt x ≤ n) : eqOB cs n x y = some (eqD x y) := by
  unfold eqOB
  cases q : isR x with
  | true => simp [c, l]
  | false => simpa using (cmpq_fl c q).2.2
theorem eqBF_is {n : Nat} {x y : D} (c : cmpq cs x y = true) (l : hgt x ≤ n) : eqBF cs n x y = some (sB (eqD x y)) := by unfold eqBF; rw [eqOB_is c l]; rfl
theorem neBF_is {n : Nat} {x y : D} (c : cmpq cs x y = true) (l : hgt x ≤ n) : neBF cs n x y = some (sB (!eqD x y)) := by unfold neBF; rw [eqOB_is c l]; rfl
theorem ok_eqB {Z : Zt} {n : Nat} (hk : Z.K = kt := by rfl) : Ok2 Z (rEqB kt cs n) (eqBF cs n) := fun F H x y v w s Q sm p q e k => by
  subst hk
  obtain ⟨b, e1, rfl⟩ := Option.map_eq_some_iff.mp e
  unfold eqOB at e1
  split at e1
  · rename_i z
    simp only [Bool.and_eq_true, decide_eq_true_eq] at z
    obtain ⟨z1, z2, z3⟩ := z
    cases e1
    exact .inr ⟨_, ⟨x, y, z1, z2, z3, rfl, pk_da sm p, pk_da sm q⟩, fun H' ex => k (.bl (eqD x y)) F H' ⟨Same.refl _, ex, sm.trans ex, fun _ z => .inl z⟩ ⟨_, rfl, DA.bl⟩ fun z => nomatch z⟩
  · exact .inl (ok_eq F H x y v w _ Q sm p q (by unfold eqF; rw [e1]; rfl) k)
theorem ok_neB {Z : Zt} {n : Nat} (hk : Z.K = kt := by rfl) : Ok2 Z (rNeB kt cs n) (neBF cs n) := fun F H x y v w s Q sm p q e k => by
  subst hk
  obtain ⟨b, e1, rfl⟩ := Option.map_eq_some_iff.mp e
  unfold eqOB at e1
  split at e1
  · rename_i z
    simp only [Bool.and_eq_true, decide_eq_true_eq] at z
    obtain ⟨z1, z2, z3⟩ := z
    cases e1
    exact .inr ⟨_, ⟨x, y, z1, z2, z3, rfl, pk_da sm p, pk_da sm q⟩, fun H' ex => k (.bl !(eqD x y)) F H' ⟨Same.refl _, ex, sm.trans ex, fun _ z => .inl z⟩ ⟨_, rfl, DA.bl⟩ fun z => nomatch z⟩
  · exact .inl (ok_ne F H x y v w _ Q sm p q (by unfold neF; rw [e1]; rfl) k)
end
end

section
/-- the built-in type of plain data -/
def tyD : D → Option String
  | .non => some "NoneType" | .bl _ => some "bool" | .int _ => some "int" | .str _ => some "str" | .lst _ => some "list" | .tup _ => some "tuple" | _ => none
/-- an own class that isinstance may be asked of -/
def metaOk (K : PySem.W.Frag) (C : Addr) : Prop := ((PySem.W.clsIn K C).isSome && PySem.W.typeIn K (.ref C) == some (.type "type")) = true
theorem meta_of {K : PySem.W.Frag} {C C' : Addr} (e : PySem.W.kitOne K (.ref C') (.ref C) = some false) : metaOk K C := by
  have n := (kit_apart e).1
  have n' : (Value.ref C' == Value.ref C) = false := by simp [n]
  simp only [PySem.W.kitOne, n', PySem.W.kitCls, Bool.false_eq_true, if_false] at e
  split at e
  · rename_i q; exact q
  · cases e
theorem mro_no {T : String} {C : Addr} {l : List Value} (e : fastBuiltinMro T = some l) : l.contains (.ref C) = false := by
  obtain ⟨r, _, rfl⟩ := Option.map_eq_some_iff.mp e
  simp
theorem sub_no {K : PySem.W.Frag} {T : String} {C : Addr} (h : (fastBuiltinMro T).isSome = true) : PySem.W.subIn K (.type T) (.ref C) = some false := by
  obtain ⟨l, e⟩ := Option.isSome_iff_exists.mp h
  simp only [PySem.W.subIn, e, Option.map_some, mro_no e]
theorem ty_fast {d : D} {T : String} (e : tyD d = some T) : (fastBuiltinMro T).isSome = true := by
  cases d <;> first | (cases e; decide +kernel) | (cases e; done)
theorem kit_no {K : PySem.W.Frag} {T : String} {C : Addr} (m : metaOk K C) (h : (fastBuiltinMro T).isSome = true) : PySem.W.kitOne K (.type T) (.ref C) = some false := by
  have n : (Value.type T == Value.ref C) = false := by simp
  simp only [PySem.W.kitOne, n, PySem.W.kitCls, Bool.false_eq_true, if_false]
  unfold metaOk at m
  rw [if_pos m]
  exact sub_no h
section
variable {K : Kt} {H : Hp}
theorem tyb_of {d : D} {T : String} {v : V} (e : tyD d = some T) (a : DA K H d v) : TyB K.K H v T := by
  cases d with
  | non => cases e; unfold DA at a; subst a; exact .non
  | bl b => cases e; unfold DA at a; subst a; exact .bl b
  | int i => cases e; unfold DA at a; subst a; exact .int i
  | str z => cases e; unfold DA at a; subst a; exact .str z
  | lst xs => cases e; obtain ⟨p, vs, rfl, q, _⟩ := a.lst'; exact .lst q
  | tup xs => cases e; obtain ⟨p, vs, rfl, q, _⟩ := a.tup'; exact .tup q
  | _ => cases e
theorem tyx_of {d : D} {T : String} {v : V} (e : tyD d = some T) (a : DA K H d v) : TyX K.K H v (.type T) := by
  cases d with
  | non => cases e; unfold DA at a; subst a; exact .base .non
  | bl b => cases e; unfold DA at a; subst a; exact .base (.bl b)
  | int i => cases e; unfold DA at a; subst a; exact .base (.int i)
  | str z => cases e; unfold DA at a; subst a; exact .base (.str z)
  | lst xs =>
    cases e
    obtain ⟨p, vs, rfl, q, _⟩ := a.lst'
    rcases q with (q | ⟨o, q⟩) | ⟨o, its, n, q, c, _⟩
    · exact .base (.lst q)
    · exact .base (.frz q)
    · exact .kList q c
  | tup xs =>
    cases e
    obtain ⟨p, vs, rfl, q, _⟩ := a.tup'
    rcases q with (q | ⟨o, q⟩) | ⟨o, its, n, q, c, _⟩
    · exact .base (.tup q)
    · exact .fTuple q
    · exact .kTuple q c
  | _ => cases e
end
/-- isinstance(x, C), whatever x is -/
def isN1 (p : Nat → Bool) : D → Option S
  | .obj c _ => some (sB (p c))
  | x => (tyD x).map fun _ => sB false
section
variable {Z : Zt} {W : WX} {X : Cx} {F H : Hp} {σ : L2.St} {ρ : En}
theorem isN_in {C : Addr} {p : Nat → Bool} {h : En → Rs Hd} (hp : KOk Z (.ref C) p) (hm : metaOk Z.K.K C) : ∀ σ H Q, dF Z W (op1 (isN1 p) h) σ H Q → tCB (rIsi Z.K.K) (tCons (dO Z W h) (tCons (tC (.ref C)) tNil)) σ H Q := fun σ H Q q =>
  op1_in (r := fun v H Q => rIsi Z.K.K [v, .ref C] H Q) (fun F H x v s Q sm p e k => by
    cases ht : tyD x with
    | some T =>
      have e' : s = sB false := by cases x <;> first | (cases ht; done) | (cases e; rfl)
      subst e'
      exact ⟨_, _, _, _, _, rfl, .own C, tyx_of ht (pk_da sm p), kit_no hm (ty_fast ht), k.dat sm DA.bl⟩
    | none =>
      cases x with
      | obj c xs =>
        cases e
        obtain ⟨nm, fs, a, dx, vs, g1, rfl, g2, g3, g4⟩ := p
        obtain ⟨i, k5⟩ := hp c nm fs g1
        exact ⟨_, _, _, _, _, rfl, .own C, .base (.ins g2 i.cl i.hc i.hg i.ht i.mr), k5, k.dat sm DA.bl⟩
      | _ => first | (cases ht; done) | (cases e; done)) σ H Q q
theorem d_isiN {x : Expr} {es : List Expr} {C : Addr} {p : Nat → Bool} {h : En → Rs Hd} {pp pos : Pos} (hp : KOk Z (.ref C) p) (hM : metaOk Z.K.K C) (hg : Gl X "isinstance") (hm : X.mg "isinstance" = none) (hb : bootBuiltins "isinstance" = some (.builtin "isinstance"))
    (ha : L2.PA X (x :: es) (tCons (dO Z W h) (tCons (tC (.ref C)) tNil))) (hk : X.K = Z.K.K := by rfl) (he : StarOk X x es := by rfl) (hpl : NoStars X pos es := by rfl) :
    DF X Z W (.Call (.Name "isinstance" pp) (x :: es) [] pos) (op1 (isN1 p) h) := ⟨pe_imp (pe_callB (hk ▸ call_isi) hg hm hb ha (by decide) (by decide) he hpl) (isN_in hp hM)⟩
end
/-! ### == and != of an object and what is none -/
theorem look_ty {prog : Program} {w : World} {s : Shared} {u : Value} {T : String} (h : s.TypeIs u T) : PySem.W.Looks (model prog w) s.heap (typeOf u) (.type T) := fun A Q E s' k q => by
  refine wpAny_typeOf (T := T) ?_ q
  cases u with
  | ref a => obtain ⟨o, e, c⟩ := h; exact ⟨o, k a o e, c⟩
  | _ => exact h
theorem rc_neTy {prog : Program} {w : World} {A : Around} {E : Value → Shared → Prop} {s : Shared} {K : PySem.W.Frag} {x C f : Addr} {ox : Obj} {od : Option Obj} {v : Value} {T : String} {Q : Value → Shared → Prop}
    (hu : A.units + 1 < cLine) (X : K.In s.heap) (I : PySem.W.InstAt s.heap x ox C od) (J : s.TypeIs v T) (one : oneThing? .NotEq (.ref x) v = none) (ft : (fastBuiltinMro T).isSome = true) (hm : PySem.W.mroIn K C (.type "object") = some true) (he : PySem.W.findIn K (.ref C) "__eq__" = some (some (.ref f))) (hs : PySem.W.findIn K (.ref C) "__ne__" = some (some (.builtin "object.__ne__"))) (hf : PySem.W.isFn K (.ref f) = true)
    (h : wpAny (model prog w) A.in1 (call (.ref f) [.ref x, v]) (fun r s' => ∃ c, r = .bool c ∧ Q (.bool !c) s') E s) :
    wpAny (model prog w) A (richCompare .NotEq (.ref x) v) Q E s := by
  have two : (Value.ref C != Value.type T) = true := by simp [bne]
  unfold richCompare
  refine wpAny_holding (wpAny_bind (wpAny_cRoomFor (by omega) ?_))
  rw [one]
  refine wpAny_bind (PySem.W.Looks.here I.type (wpAny_bind (PySem.W.Looks.here (look_ty J) ?_)))
  rw [if_pos two]
  refine wpAny_bind (PySem.W.Looks.here (PySem.W.looks_subIn X (sub_no ft)) (wpAny_bind ?_))
  refine wpAny_bind (ifBound_ne X I hs (call_ne hu X I hm he hf (wpAny_mono h (fun v s' h' => ?_) fun _ _ q => q)))
  obtain ⟨c, rfl, q⟩ := h'
  exact ⟨c, rfl, wpAny_pure (wpAny_pure q)⟩
section
variable {X : Cx} {CX : CXT} {k : Nat} {C : Addr} {sp : Sp} {E : XK}
theorem ask_ty (c : OwnE X.prog X.w X.K X.mg X.base CX k C sp) (hx : Passes CX X E) (w : Bool) {A : Around} (sb : L2.Sub X (k + 1) A) {pins : List (Addr × Obj)} {σ : L2.St} {H : Hp} {s : Shared} {a dx : Addr} {fs : List (Str × V)} {y : V} {u : Value} {T : String} {r : Bool}
    (I : L2.Inv X pins σ H s) (ha : H a = some (.ins C dx fs)) (ty : TyB X.K H y T) (ft : (fastBuiltinMro T).isSome = true) (ry : RelV y u) (h : spB sp E (.ref a) y H fun c H' => c = r ∧ Ext H H') :
    wpAny (model X.prog X.w) A (richCompare (opW w) (.ref a) u) (fun q s' => q = OpB w r ∧ LoopI X pins σ H s') X.xe s := by
  obtain ⟨f, fd, ps, F, hs, hf, hb, hs', hm, _⟩ := c.ex
  obtain ⟨_, J, _⟩ := ins_get I.hok ha
  obtain ⟨_, J, _⟩ := J.look
  have is := ty.is I ry
  cases w
  · refine rc_neTy (by have := sb.room.un; omega) I.kIn J is rfl ft hm hs hs' hf ?_
    refine wpAny_mono (run_own F hb hx sb.in1.room sb.in1.fr I (x := .ref a) rfl ry h) (fun q s' z => ?_) fun _ _ q => q
    obtain ⟨c, e, H', I', z1, z2⟩ := z
    exact ⟨c, e, by rw [z1]; rfl, H', I', z2⟩
  · obtain ⟨m, hF⟩ := I.fr
    have other : PySem.W.notFirst X.K C (.type T) = true := by simp [PySem.W.notFirst, sub_no ft]
    refine PySem.W.cmp_K (op := .Eq) sb.room.units0 hF I.ok.mod.kin J (look_ty is) other hs hf ?_
    refine wpAny_mono (run_own F hb hx (sb.mono (Nat.le_succ k)).room sb.fr I (x := .ref a) rfl ry h) (fun q s' z => ?_) fun _ _ q => q
    obtain ⟨c, e, H', I', z1, z2⟩ := z
    subst e z1
    exact ⟨rfl, H', I', z2⟩
end
section
variable {kt : Kt} {cs : List (Nat × Nat)}
def TOdd (kt : Kt) (cs : List (Nat × Nat)) : V → V → Hp → Prop := fun x y H => ∃ c xs e T, cs.lookup c = some xs.length ∧ tyD e = some T ∧ DA kt H (.obj c xs) x ∧ DA kt H e y
def EqOdd (P : Program) (w : World) (K : PySem.W.Frag) (mg : Str → Option Value) (base : Heap) (kt : Kt) (cs : List (Nat × Nat)) (n : Nat) : Prop :=
  ∀ X : Cx, X.prog = P → X.w = w → X.K = K → X.mg = mg → X.base = base → ∀ (w : Bool) (A : Around) (pins : List (Addr × Obj)) (σ : L2.St) (H : Hp) (x y : V), TOdd kt cs x y H → ∀ (s : Shared) (u v : Value), RelV x u → RelV y v → L2.Inv X pins σ H s → L2.Sub X (3 * n + 4) A →
    wpAny (model X.prog X.w) A (richCompare (opW w) u v) (fun q s' => q = OpB w false ∧ LoopI X pins σ H s') X.xe s
theorem eqOdd {P : Program} {w : World} {K : PySem.W.Frag} {mg : Str → Option Value} {base : Heap} {me : Nat → Nat → List S → Rs S} (hK : kt.K = K) (n : Nat)
    (own : ∀ c k, cs.lookup c = some k → ∃ nm fs, kt.ct[c]? = some (nm, fs) ∧ OwnE P w K mg base (L2.CX P w) (3 * n + 3) (He.ga K nm) (spD kt 2 (me c n)))
    (told : ∀ c xs e T, cs.lookup c = some xs.length → tyD e = some T → ∃ ρ, me c n [.d (.obj c xs), .d e] = .ok (.d (.bl false)) ρ) : EqOdd P w K mg base kt cs n := by
  intro X h1 h2 h3 h4 h5 w A pins σ H x y t s u v ru rv I sb
  subst h1 h2 h3 h4 h5
  obtain ⟨c, xs, e, T, hc, ht, a, b⟩ := t
  obtain ⟨nm, fs, hk, ow⟩ := own c _ hc
  obtain ⟨ρ, q⟩ := told c xs e T hc ht
  have sp := spD_two (E := E0) q a b
  have a0 := a
  unfold DA at a0
  obtain ⟨nm1, fs1, p, dx, vs, hk1, rfl, k1, _⟩ := a0
  rw [hk] at hk1
  cases hk1
  rw [hK] at k1
  have ty := tyb_of ht b
  rw [hK] at ty
  cases ru
  exact ask_ty ow passL w sb I k1 ty (ty_fast ht) rv sp
def rEqN (kt : Kt) (cs : List (Nat × Nat)) (n : Nat) : R2 := fun x y H Q => rEqB kt cs n x y H Q ∨ (TOdd kt cs x y H ∧ ∀ H', Ext H H' → Q (.bl false) H')
def rNeN (kt : Kt) (cs : List (Nat × Nat)) (n : Nat) : R2 := fun x y H Q => rNeB kt cs n x y H Q ∨ (TOdd kt cs x y H ∧ ∀ H', Ext H H' → Q (.bl true) H')
theorem oEqN {X : Cx} {n j : Nat} (e : EqAllB X.prog X.w X.K X.mg X.base kt cs n) (o : EqOdd X.prog X.w X.K X.mg X.base kt cs n) (hr : Room j X.A) (hj : 3 * n + 4 ≤ j) (hK : X.K = kt.K := by rfl) : OpR X (compareOp .Eq) (rEqN kt cs n) := by
  intro pins s σ H x y v u Q I rx ry z
  rcases z with z | ⟨t, k⟩
  · exact oEqB e hr (by omega) hK pins s σ H x y v u Q I rx ry z
  · refine PySem.W.cmp_ofEq (wpAny_mono (o X rfl rfl rfl rfl rfl true X.A pins σ H x y t s v u rx ry I ⟨hr.mono hj, rfl⟩) (fun q s' z => ?_) fun _ _ z => z)
    obtain ⟨rfl, H', I', ex⟩ := z
    exact ⟨.bl false, H', I', rfl, k H' ex⟩
theorem oNeN {X : Cx} {n j : Nat} (e : EqAllB X.prog X.w X.K X.mg X.base kt cs n) (o : EqOdd X.prog X.w X.K X.mg X.base kt cs n) (hr : Room j X.A) (hj : 3 * n + 4 ≤ j) (hK : X.K = kt.K := by rfl) : OpR X (compareOp .NotEq) (rNeN kt cs n) := by
  intro pins s σ H x y v u Q I rx ry z
  rcases z with z | ⟨t, k⟩
  · exact oNeB e hr (by omega) hK pins s σ H x y v u Q I rx ry z
  · refine PySem.W.cmp_ofNotEq (wpAny_mono (o X rfl rfl rfl rfl rfl false X.A pins σ H x y t s v u rx ry I ⟨hr.mono hj, rfl⟩) (fun q s' z => ?_) fun _ _ z => z)
    obtain ⟨rfl, H', I', ex⟩ := z
    exact ⟨.bl true, H', I', rfl, k H' ex⟩
def oddB (cs : List (Nat × Nat)) (x y : D) : Bool := match x with
  | .obj c xs => (cs.lookup c == some xs.length) && (tyD y).isSome
  | _ => false
/-- the answer of an ==, of an object and what is none, too -/
def eqON (cs : List (Nat × Nat)) (n : Nat) (x y : D) : Option Bool := if oddB cs x y then some false else eqOB cs n x y
def eqNF (cs : List (Nat × Nat)) (n : Nat) (x y : D) : Option S := (eqON cs n x y).map sB
def neNF (cs : List (Nat × Nat)) (n : Nat) (x y : D) : Option S := (eqON cs n x y).map fun b => sB (!b)
theorem odd_is {F H : Hp} {Z : Zt} {x y : D} {v w : V} (h : oddB cs x y = true) (sm : Same F H) (p : Pk Z.K F H x v) (q : Pk Z.K F H y w) : TOdd Z.K cs v w H := by
  cases x with
  | obj c xs =>
    simp only [oddB, Bool.and_eq_true, beq_iff_eq, Option.isSome_iff_exists] at h
    obtain ⟨h1, T, h2⟩ := h
    exact ⟨c, xs, y, T, h1, h2, pk_da sm p, pk_da sm q⟩
  | _ => cases h
theorem ok_eqN {Z : Zt} {n : Nat} (hk : Z.K = kt := by rfl) : Ok2 Z (rEqN kt cs n) (eqNF cs n) := fun F H x y v w s Q sm p q e k => by
  by_cases h : oddB cs x y = true
  · subst hk
    unfold eqNF eqON at e
    rw [if_pos h] at e
    cases e
    exact .inr ⟨odd_is h sm p q, fun H' ex => k (.bl false) F H' ⟨Same.refl _, ex, sm.trans ex, fun _ z => .inl z⟩ ⟨_, rfl, DA.bl⟩ fun z => nomatch z⟩
  · unfold eqNF eqON at e
    rw [if_neg h] at e
    exact .inl (ok_eqB hk F H x y v w s Q sm p q e k)
theorem ok_neN {Z : Zt} {n : Nat} (hk : Z.K = kt := by rfl) : Ok2 Z (rNeN kt cs n) (neNF cs n) := fun F H x y v w s Q sm p q e k => by
  by_cases h : oddB cs x y = true
  · subst hk
    unfold neNF eqON at e
    rw [if_pos h] at e
    cases e
    exact .inr ⟨odd_is h sm p q, fun H' ex => k (.bl true) F H' ⟨Same.refl _, ex, sm.trans ex, fun _ z => .inl z⟩ ⟨_, rfl, DA.bl⟩ fun z => nomatch z⟩
  · unfold neNF eqON at e
    rw [if_neg h] at e
    exact .inl (ok_neB hk F H x y v w s Q sm p q e k)
theorem eqNF_is {n : Nat} {x y : D} (h : oddB cs x y = false) : eqNF cs n x y = eqBF cs n x y ∧ neNF cs n x y = neBF cs n x y := by
  unfold eqNF neNF eqON eqBF neBF
  simp [h]
theorem eqNF_odd {n : Nat} {x y : D} (h : oddB cs x y = true) : eqNF cs n x y = some (sB false) ∧ neNF cs n x y = some (sB true) := by
  unfold eqNF neNF eqON
  simp [h]
end
end

section
def rCatN (K : PySem.W.Frag) : R2 := fun x y H Q => ∃ a b ys, x = .ref a ∧ y = .ref b ∧ SqT K H a [] ∧ SqT K H b ys ∧ Q (.ref b) H
theorem op_catN {X : Cx} : OpR X (binaryOp .Add) (rCatN X.K) := by
  intro pins s σ H x y v u Q I rx ry h
  obtain ⟨a, b, ys, rfl, rfl, ha, hb, q⟩ := h
  cases rx
  cases ry
  obtain ⟨its, r1, p1, _⟩ := I.tuple ha
  obtain ⟨its2, _, p2, _⟩ := I.tuple hb
  cases r1
  obtain ⟨⟨c, d, e, sl⟩, o1, rfl, m, rfl⟩ := p1
  obtain ⟨⟨c', d', e', sl'⟩, o2, rfl, m', rfl⟩ := p2
  have w0 := tuple_addW0 a b #[] its2.toArray m m' d d' sl sl' rfl
  exact concat_meets ⟨_, o1, rfl⟩ ⟨_, o2, rfl⟩ noFill_tuple_add seq_tuple_add PySem.F.slot_tuple_add PySem.F.entry_tuple_add (PySem.F.args_tuple_add_2 _ _) w0 ⟨o1, o2, .ref b, H, I, rfl, q⟩
def rAddN (K : PySem.W.Frag) : R2 := fun x y H Q => rAddA K x y H Q ∨ rCatN K x y H Q
theorem oAddN {X : Cx} (K : PySem.W.Frag) (h : X.K = K := by rfl) : OpR X (binaryOp .Add) (rAddN K) := h ▸ op_addA.or op_catN
def addN : D → D → Option S
  | .tup xs, .tup ys => if xs = [] then some (.d (.tup ys)) else if ys = [] ∧ xs.length + 0 ≤ 100000 then some (.d (.tup xs)) else addF (.tup xs) (.tup ys)
  | x, y => addF x y
theorem ok_addN {Z : Zt} : Ok2 Z (rAddN Z.K.K) addN := fun F H x y v w s Q sm p q e k => by
  by_cases h : ∃ xs ys, x = .tup xs ∧ y = .tup ys
  · obtain ⟨xs, ys, rfl, rfl⟩ := h
    unfold addN at e
    simp only at e
    split at e
    · rename_i hx
      subst hx
      cases e
      have qF := q.tupF
      obtain ⟨a, vs, rfl, h1, h2⟩ := p.tup'
      obtain ⟨b, ws, rfl, h3, h4⟩ := q.tup'
      obtain rfl : vs = [] := (das_nil h2).mpr rfl
      exact .inr ⟨a, b, ws, rfl, rfl, h1, h3, k (.ref b) F H ⟨Same.refl _, Same.refl _, sm, fun _ z => .inl z⟩ ⟨_, rfl, qF⟩ fun z => nomatch z⟩
    · rename_i hx
      split at e
      · rename_i hy
        obtain ⟨rfl, hl⟩ := hy
        cases e
        have pF := p.tupF
        obtain ⟨a, vs, rfl, h1, h2⟩ := p.tup'
        obtain ⟨b, ws, rfl, h3, h4⟩ := q.tup'
        obtain rfl : ws = [] := (das_nil h4).mpr rfl
        exact .inl (.inr (.inr (.inr ⟨a, b, vs, [], rfl, rfl, h1, h3, fun z => hx ((das_nil h2).mp z), by rw [h2.length]; exact line_of hl, (fun _ => k (.ref a) F H ⟨Same.refl _, Same.refl _, sm, fun _ z => .inl z⟩ ⟨_, rfl, pF⟩ (fun z => nomatch z)), (fun z => absurd rfl z)⟩)))
      · exact .inl (ok_add F H _ _ v w s Q sm p q e k)
  · have e' : addF x y = some s := by
      unfold addN at e
      split at e
      · exact absurd ⟨_, _, rfl, rfl⟩ h
      · exact e
    exact .inl (ok_add F H x y v w s Q sm p q e' k)
end

section
/-- a class whose making leaves the last ones out: what stands for them -/
structure MakD (P : Program) (w : World) (K : PySem.W.Frag) (mg : Str → Option Value) (base : Heap) (CX : CXT) (k : Nat) (x : Str) (C : Addr) (dvs : List V) (sp : Sp) : Prop where
  ex : ∃ (f : Addr) (fd : FuncData) (ps : List Str) (ds : List Value), Mk K C f ∧ FnOk P w K mg base CX k f fd ps sp ∧ mg x = some (.ref C) ∧ Binds K fd ps ds ∧ Vals dvs ds
section
variable {X : Cx} {Zc : CXT} {k j : Nat} {C : Addr} {x : Str} {sp : Sp} {E : L2.St → XK} {p pos : Pos} {e : Expr} {es : List Expr} {dvs : List V} {t : TA}
def tLast (dvs : List V) (t : TA) : TA := fun σ H R => t σ H fun vs H1 => R (vs ++ dvs) H1
/-- what is common to both: the new object, its __init__ -/
theorem made_last {f : Addr} {fd : FuncData} {ps : List Str} {ds : List Value} (M : Mk X.K C f) (F : FnOk X.prog X.w X.K X.mg X.base Zc k f fd ps sp) (b : Binds X.K fd ps ds) (hd : Vals dvs ds) (hr : Room j X.A) (hk : k + 1 ≤ j) (hx : ∀ σ, PassesAt Zc X σ (E σ))
    {pins : List (Addr × Obj)} {s1 : Shared} {σ : L2.St} {H1 : Hp} {vs : List V} {us : List Value} {Q : Value → Shared → Prop} {R : VK} (I1 : Inv X pins σ H1 s1) (r : Vals vs us)
    (q : ∀ x dx, H1 x = none → H1 dx = none → dx ≠ x → sp (.ref x :: (vs ++ dvs)) (upd (upd H1 dx (.own x)) x (.ins C dx [])) (fun v H2 => v = .non ∧ R (.ref x) H2) (E σ))
    (fin : ∀ {v : Value} {s : Shared}, (∃ y H, Inv X pins σ H s ∧ RelV y v ∧ R y H) → Q v s) : wpAny (model X.prog X.w) X.A (call (.ref C) us) Q X.xe s1 := by
  obtain ⟨me, hme⟩ : ∃ me, me = s1.heap.objs.size + 1 := ⟨_, rfl⟩
  have goal := q me s1.heap.objs.size (hme ▸ I1.hok.fresh (Nat.le_succ _)) (I1.hok.fresh (Nat.le_refl _)) (hme ▸ Nat.ne_of_lt (Nat.lt_succ_self _))
  subst hme
  have I3 := Inv.made (C := C) I1
  have rr := vals_app r hd
  have r3 : Vals (V.ref (s1.heap.objs.size + 1) :: (vs ++ dvs)) (Value.ref (s1.heap.objs.size + 1) :: (us ++ ds)) := .cons rfl rr
  have hl : (Value.ref (s1.heap.objs.size + 1) :: us ++ ds).length = ps.length := by
    rw [List.cons_append, ← r3.length, F.len _ _ _ _ goal]
  have b3 := b _ (Value.ref (s1.heap.objs.size + 1) :: us) I3.kIn hl
  have room := hr.mono hk
  refine wpAny_call (make_map (f := f) I1.kIn M.makes M.init (beq_iff_eq.mp M.fn) (codeAny_mono (F.run _ X.stack _ _ ⟨Value.ref (s1.heap.objs.size + 1) :: us, []⟩ _ _ _ (E σ) (room.make C us []) (I3.env0.make C us []) b3 r3 goal) fun z s' hz => ?_))
  cases z with
  | error e => exact hx σ pins _ _ e s' I3 hz
  | ok fl =>
    cases fl with
    | ret u =>
      obtain ⟨v, H', I4, rv, ev, q3⟩ := I3.after hz
      cases ev
      exact ⟨rv, fin ⟨V.ref (s1.heap.objs.size + 1), H', I4, rfl, q3⟩⟩
    | next => cases hz
    | brk => cases hz
    | cont => cases hz
theorem pe_mkD0 (c : MakD X.prog X.w X.K X.mg X.base Zc k x C dvs sp) (hr : Room j X.A) (hk : k + 1 ≤ j) (hx : ∀ σ, PassesAt Zc X σ (E σ)) (hg : Gl X x) (hdb : NotDbg x := by decide) :
    PE X (.Call (.Name x p) [] [] pos) (tMakeS C sp E (tLast dvs tNil)) := by
  obtain ⟨f, fd, ps, ds, M, F, hm, b, hd⟩ := c.ex
  exact ⟨fun pins s σ H Q I h => wpAny_Call_Name_kw (ld_glob I hg hm (PySem.W.callWith_K0 (first := []) I.kIn M.kp (made_last M F b hd hr hk hx I .nil h fun z => z)) hdb)⟩
theorem pe_mkD (c : MakD X.prog X.w X.K X.mg X.base Zc k x C dvs sp) (hr : Room j X.A) (hk : k + 1 ≤ j) (hx : ∀ σ, PassesAt Zc X σ (E σ)) (hg : Gl X x) (ha : L2.PA X (e :: es) t)
    (hdb : NotDbg x := by decide) (he : StarOk X e es := by rfl) (hpl : NoStars X pos es := by rfl) : PE X (.Call (.Name x p) (e :: es) [] pos) (tMakeS C sp E (tLast dvs t)) := by
  obtain ⟨f, fd, ps, ds, M, F, hm, b, hd⟩ := c.ex
  refine ⟨fun pins s σ H Q I h => wpAny_Call_Name_kw (ld_glob I hg hm (PySem.W.callWith_K (h₀ := X.base) I.ok.mod.kin M.kp (thn (ha.run pos pins s σ H _ I h) fun us s1 hh => ?_) he hpl) hdb)⟩
  obtain ⟨vs, H1, I1, r, q⟩ := hh
  exact ⟨I1.kIn, made_last M F b hd hr hk hx I1 r q fun z => z⟩
end
section
variable {Z : Zt} {W : WX} {X : Cx} {CT : CXT} {k j c n d : Nat} {x nm : Str} {fs : List Str} {m : List S → Rs S} {g : En → Rs (List Hd)} {p pos : Pos}
def kan (d : Nat) (g : En → Rs (List Hd)) : En → Rs (List Hd) := fun ρ => (g ρ).bind fun hs ρ' => .ok (hs ++ List.replicate d (.dt .non)) ρ'
theorem hds_non {K : Kt} {F : Hp} {σ : L2.St} : ∀ d : Nat, HdsA K F σ (List.replicate d V.non) (List.replicate d (.dt .non))
  | 0 => trivial
  | d + 1 => ⟨by show DA K F .non .non; exact DA.non, hds_non d⟩
theorem hds_more {K : Kt} {F : Hp} {σ : L2.St} {d : Nat} : ∀ {vs : List V} {hs : List Hd}, HdsA K F σ vs hs → HdsA K F σ (vs ++ List.replicate d V.non) (hs ++ List.replicate d (.dt .non))
  | [], [], _ => hds_non d
  | _ :: _, _ :: _, h => ⟨h.1, hds_more h.2⟩
  | [], _ :: _, h => h.elim
  | _ :: _, [], h => h.elim
theorem kan_in {R : List V → Hp → Prop} {σ : L2.St} {H : Hp} (h : dA Z W (kan d g) σ H R) : dA Z W g σ H fun vs H1 => R (vs ++ List.replicate d V.non) H1 := by
  obtain ⟨F, ρ, ea, q⟩ := h
  unfold kan at q
  exact ⟨F, ρ, ea, q.bind.mono fun hs ρ2 F2 H2 st2 e2 q2 vs hvs => q2.here e2 _ (hds_more hvs)⟩
theorem ar0_nil {R : List V → Hp → Prop} {σ : L2.St} {H : Hp} (h : dA Z W ar0 σ H R) : R [] H := by
  obtain ⟨F, ρ, ea, q⟩ := h
  exact q.here ea [] trivial
theorem d_makeD0 (hc : Z.K.ct[c]? = some (nm, fs)) (cm : MakD X.prog X.w X.K X.mg X.base CT k x (He.ga Z.K.K nm) (List.replicate d V.non) (spD Z.K n m)) (hr : Room j X.A) (hk : k + 1 ≤ j) (hx : ∀ σ, PassesAt CT X σ (WE W σ)) (hg : Gl X x) (hdb : NotDbg x := by decide) :
    DF X Z W (.Call (.Name x p) [] [] pos) (mkf c n m (kan d ar0)) := ⟨pe_imp (pe_mkD0 cm hr hk hx hg hdb) fun σ H Q q => ar0_nil (kan_in (mk_in (W := W) hc σ H Q q))⟩
theorem d_makeD {e : Expr} {es : List Expr} (hc : Z.K.ct[c]? = some (nm, fs)) (cm : MakD X.prog X.w X.K X.mg X.base CT k x (He.ga Z.K.K nm) (List.replicate d V.non) (spD Z.K n m)) (hr : Room j X.A) (hk : k + 1 ≤ j) (hx : ∀ σ, PassesAt CT X σ (WE W σ)) (hg : Gl X x) (ha : DR X Z W (e :: es) g)
    (hdb : NotDbg x := by decide) (he : StarOk X e es := by rfl) (hpl : NoStars X pos es := by rfl) :
    DF X Z W (.Call (.Name x p) (e :: es) [] pos) (mkf c n m (kan d g)) := ⟨pe_imp (pe_mkD cm hr hk hx hg ha.pa hdb he hpl) fun σ H Q q => kan_in (mk_in (W := W) hc σ H Q q)⟩
end
/-! f'..' -/
section
variable {Z : Zt} {W : WX} {X : Cx}
def fmtD : D → Option Str
  | .str y => if y.length ≤ 100000 then some y else none
  | .int i => if i.natAbs.log2 < 1920 then some (toString i) else none
  | _ => none
def fmG (m : En → Rs D) : En → Rs D := fun ρ => (m ρ).bind fun x ρ1 => Rs.opt (fmtD x) fun y => .ok (.str y) ρ1
def fsG : List (En → Rs D) → Str → En → Rs D
  | [], acc, ρ => .ok (.str acc) ρ
  | m :: ms, acc, ρ => (m ρ).bind fun x ρ1 => match x with
    | .str y => if (acc ++ y).length ≤ 100000 then fsG ms (acc ++ y) ρ1 else .stuck
    | _ => .stuck
theorem d_fmt {e : Expr} {m : En → Rs D} {pos : Pos} (he : DE X Z W e m) : DE X Z W (.FormattedValue e (-1) none pos) (fmG m) := ⟨pe_imp (pe_fmt he.pe) fun σ H Q ⟨F, ρ, ea, q⟩ => by
  refine ⟨F, ρ, ea, ?_⟩
  unfold fmG at q
  refine q.bind.mono fun x ρ1 F1 H1 st1 e1 q v hv => ?_
  obtain ⟨y, ey, q2⟩ := q.opt
  clear q
  unfold fmtD at ey
  split at ey
  · split at ey
    · rename_i hl
      cases ey
      exact .inl ⟨_, da_str hv, line_of hl, q2.here e1 _ DA.str⟩
    · cases ey
  · split at ey
    · rename_i hl
      cases ey
      exact .inr ⟨_, da_int hv, hl, q2.here e1 _ DA.str⟩
    · cases ey
  · cases ey⟩
inductive DJ (X : Cx) (Z : Zt) (W : WX) : List Expr → List (En → Rs D) → Prop where
  | nil : DJ X Z W [] []
  | cons {e : Expr} {m : En → Rs D} {es : List Expr} {ms : List (En → Rs D)} (h : DE X Z W e m) (r : DJ X Z W es ms) : DJ X Z W (e :: es) (m :: ms)
theorem DJ.pj {es : List Expr} {ms : List (En → Rs D)} (h : DJ X Z W es ms) : PJ X es (ms.map (dE Z W)) := by
  induction h with
  | nil => exact .nil
  | cons h _ ih => exact .cons h.pe ih
theorem fs_in : ∀ (ms : List (En → Rs D)) (acc : Str) (σ : L2.St) (H : Hp) (Q : VK), dE Z W (fsG ms acc) σ H Q → tJs (ms.map (dE Z W)) acc σ H fun out H1 => Q (.str out) H1
  | [], acc, σ, H, Q, ⟨F, ρ, ea, q⟩ => q.here ea _ DA.str
  | m :: ms, acc, σ, H, Q, ⟨F, ρ, ea, q⟩ => ⟨F, ρ, ea, by
    unfold fsG at q
    refine q.bind.mono fun x ρ1 F1 H1 st1 e1 q v hv => ?_
    cases x with
    | str y =>
      simp only at q
      by_cases hl : (acc ++ y).length ≤ 100000
      · rw [if_pos hl] at q
        exact ⟨y, da_str hv, line_of hl, fs_in ms (acc ++ y) σ H1 Q ⟨F1, ρ1, e1, q⟩⟩
      · rw [if_neg hl] at q; exact q.elim
    | _ => exact q.elim⟩
theorem d_fs {v1 v2 : Expr} {rest : List Expr} {ms : List (En → Rs D)} {pos : Pos} (h : DJ X Z W (v1 :: v2 :: rest) ms) : DE X Z W (.JoinedStr (v1 :: v2 :: rest) pos) (fsG ms Str.empty) := ⟨pe_imp (pe_joined h.pj) fun σ H Q q => fs_in ms Str.empty σ H Q q⟩
def intW : List D → Option S
  | [.str a] => if a.length ≤ 640 then (PySem.intText? a).map sI else none
  | _ => none
theorem ok_intW : OkN Z (fun xs H Q => ∃ a n, xs = [.str a] ∧ PySem.intText? a = some n ∧ a.length ≤ 640 ∧ Q (.int n) H) intW := fun F H xs vs s Q sm p e k => by
  unfold intW at e
  split at e
  · split at e
    · rename_i hl
      obtain ⟨n, en, rfl⟩ := Option.map_eq_some_iff.mp e
      obtain ⟨v, rfl, h⟩ := pks_one p
      exact ⟨_, n, by rw [pk_str h], en, hl, k.dat sm DA.int⟩
    · cases e
  · cases e
end
theorem binds_full {K : PySem.W.Frag} {x qual : Str} {params : Arguments} {body : List Stmt} {scope : Scope} {dvs : List V} {kws : List (Str × V)} {f : Addr} {fd : FuncData} {ps : List Str} (F : FunD K x qual params body scope dvs kws f fd) (hd : dvs ≠ [])
    (h : ∀ (T : Addr) (kV doc pm : Value) (an : Option Addr) (cdv ct : Value) (us its : List Value), us.length = ps.length → its.length = dvs.length → ∃ k, bindArgs (PySem.W.fnOf x qual params body scope (.ref T) kV doc pm an cdv ct) ⟨us, []⟩ = seqItems? (.ref T) >>= k ∧ k (some its.toArray) = pure (ps.zip us)) : Binds K fd ps [] := by
  obtain ⟨ds, hv, b⟩ := FunD.binds1 (ps := ps) F ps.length dvs.length hd (by omega) fun T kV doc pm an cdv ct us its l1 l2 => by
    obtain ⟨k, e1, e2⟩ := h T kV doc pm an cdv ct us its l1 l2
    exact ⟨k, e1, by rw [← l2, List.drop_length, List.append_nil]; exact e2⟩
  rw [List.drop_length] at hv
  cases hv
  exact b
/-! a if c else b, of which what is new stays one's own -/
section
variable {Z : Zt} {W : WX} {X : Cx} {F H F1 H1 F2 H2 : Hp} {σ σ1 : L2.St} {ρ ρ1 ρ2 : En}
theorem RA.back (st : Stp Z F H σ ρ F1 H1 σ1 ρ1) {v : V} {s : S} (h : RA Z H1 σ1 ρ1 F2 H2 ρ2 v s) (e : σ1 = σ) : RA Z H σ ρ F2 H2 ρ2 v s := by
  subst e
  exact ⟨h.1, fun so p hp => ⟨(h.2 so p hp).1.back st, (h.2 so p hp).2⟩⟩
def ifF (c : En → Rs Bool) (m k : En → Rs S) : En → Rs S := fun ρ => (c ρ).bind fun b ρ' => if b = true then m ρ' else k ρ'
theorem d_ifF {a b c : Expr} {pos : Pos} {mc : En → Rs Bool} {m k : En → Rs S} (hc : DT X Z W c mc) (ha : DF X Z W a m) (hb : DF X Z W b k) : DF X Z W (.IfExp c a b pos) (ifF mc m k) := ⟨pe_imp (pe_ifExp hc.pt ha.pe hb.pe) fun σ H R ⟨F, ρ, ea, q⟩ => ⟨F, ρ, ea, q.bind.mono fun b ρ' F' H' st e p => by
  cases b with
  | true => rw [if_pos rfl] at p ⊢; exact ⟨F', ρ', e, p.mono fun s ρ2 F2 H2 st2 e2 h v ra => h v (ra.back st rfl)⟩
  | false => rw [if_neg Bool.false_ne_true] at p ⊢; exact ⟨F', ρ', e, p.mono fun s ρ2 F2 H2 st2 e2 h v ra => h v (ra.back st rfl)⟩⟩⟩
end
end

/-- what the top has written -/
structure Txt (K : PySem.W.Frag) (mg : Str → Option Value) : Prop where
  ex : ∃ (w : World) (h : Heap), K.In h ∧ h.Ns mainGlobals mg ∧ He.SaysX fa fn [] [] exK w h K
section
variable {K : PySem.W.Frag} {mg : Str → Option Value}
theorem Txt.n_len (T : Txt K mg) : mg "len" = none := by obtain ⟨w, h, X, G, c⟩ := T.ex; exact He.free_ok X G (He.SaysD.fact (congrArg (fun z : He.AlT => z.1) c.t) 0 rfl)
theorem Txt.n_isinstance (T : Txt K mg) : mg "isinstance" = none := by obtain ⟨w, h, X, G, c⟩ := T.ex; exact He.free_ok X G (He.SaysD.fact (congrArg (fun z : He.AlT => z.1) c.t) 1 rfl)
theorem Txt.n_abs (T : Txt K mg) : mg "abs" = none := by obtain ⟨w, h, X, G, c⟩ := T.ex; exact He.free_ok X G (He.SaysD.fact (congrArg (fun z : He.AlT => z.1) c.t) 2 rfl)
theorem Txt.n_max (T : Txt K mg) : mg "max" = none := by obtain ⟨w, h, X, G, c⟩ := T.ex; exact He.free_ok X G (He.SaysD.fact (congrArg (fun z : He.AlT => z.1) c.t) 3 rfl)
theorem Txt.n_min (T : Txt K mg) : mg "min" = none := by obtain ⟨w, h, X, G, c⟩ := T.ex; exact He.free_ok X G (He.SaysD.fact (congrArg (fun z : He.AlT => z.1) c.t) 4 rfl)
theorem Txt.n_all (T : Txt K mg) : mg "all" = none := by obtain ⟨w, h, X, G, c⟩ := T.ex; exact He.free_ok X G (He.SaysD.fact (congrArg (fun z : He.AlT => z.1) c.t) 5 rfl)
theorem Txt.n_int (T : Txt K mg) : mg "int" = none := by obtain ⟨w, h, X, G, c⟩ := T.ex; exact He.free_ok X G (He.SaysD.fact (congrArg (fun z : He.AlT => z.1) c.t) 6 rfl)
theorem Txt.n_str (T : Txt K mg) : mg "str" = none := by obtain ⟨w, h, X, G, c⟩ := T.ex; exact He.free_ok X G (He.SaysD.fact (congrArg (fun z : He.AlT => z.1) c.t) 7 rfl)
theorem Txt.n_tuple (T : Txt K mg) : mg "tuple" = none := by obtain ⟨w, h, X, G, c⟩ := T.ex; exact He.free_ok X G (He.SaysD.fact (congrArg (fun z : He.AlT => z.1) c.t) 8 rfl)
theorem Txt.n_list (T : Txt K mg) : mg "list" = none := by obtain ⟨w, h, X, G, c⟩ := T.ex; exact He.free_ok X G (He.SaysD.fact (congrArg (fun z : He.AlT => z.1) c.t) 9 rfl)
theorem Txt.n_range (T : Txt K mg) : mg "range" = none := by obtain ⟨w, h, X, G, c⟩ := T.ex; exact He.free_ok X G (He.SaysD.fact (congrArg (fun z : He.AlT => z.1) c.t) 10 rfl)
theorem Txt.n_enumerate (T : Txt K mg) : mg "enumerate" = none := by obtain ⟨w, h, X, G, c⟩ := T.ex; exact He.free_ok X G (He.SaysD.fact (congrArg (fun z : He.AlT => z.1) c.t) 11 rfl)
theorem Txt.n_sorted (T : Txt K mg) : mg "sorted" = none := by obtain ⟨w, h, X, G, c⟩ := T.ex; exact He.free_ok X G (He.SaysD.fact (congrArg (fun z : He.AlT => z.1) c.t) 12 rfl)
theorem Txt.n_set (T : Txt K mg) : mg "set" = none := by obtain ⟨w, h, X, G, c⟩ := T.ex; exact He.free_ok X G (He.SaysD.fact (congrArg (fun z : He.AlT => z.1) c.t) 13 rfl)
theorem Txt.c_LETTERS (T : Txt K mg) : ∃ u, mg "LETTERS" = some u ∧ RelV (.str "abcdefghijklmnopqrstuvwxyz") u := by obtain ⟨w, h, X, G, c⟩ := T.ex; obtain ⟨t, e⟩ := He.str_ok X G (He.SaysD.fact (congrArg (fun z : He.AlT => z.1) c.t) 14 rfl); exact ⟨_, e, t, rfl⟩
theorem Txt.c_LETTERS_AND_FIGURES (T : Txt K mg) : ∃ u, mg "LETTERS_AND_FIGURES" = some u ∧ RelV (.str "abcdefghijklmnopqrstuvwxyz0123456789") u := by obtain ⟨w, h, X, G, c⟩ := T.ex; obtain ⟨t, e⟩ := He.str_ok X G (He.SaysD.fact (congrArg (fun z : He.AlT => z.1) c.t) 15 rfl); exact ⟨_, e, t, rfl⟩
theorem Txt.c_LONGEST_NAME (T : Txt K mg) : ∃ u, mg "LONGEST_NAME" = some u ∧ RelV (.int 10) u := by obtain ⟨w, h, X, G, c⟩ := T.ex; obtain ⟨t, e⟩ := He.int_ok X G (He.SaysD.fact (congrArg (fun z : He.AlT => z.1) c.t) 16 rfl); exact ⟨_, e, t, rfl⟩
theorem Txt.c_MOST_FOLLOWS (T : Txt K mg) : ∃ u, mg "MOST_FOLLOWS" = some u ∧ RelV (.int 6) u := by obtain ⟨w, h, X, G, c⟩ := T.ex; obtain ⟨t, e⟩ := He.int_ok X G (He.SaysD.fact (congrArg (fun z : He.AlT => z.1) c.t) 17 rfl); exact ⟨_, e, t, rfl⟩
theorem Txt.c_FIGURES (T : Txt K mg) : ∃ u, mg "FIGURES" = some u ∧ RelV (.str "0123456789") u := by obtain ⟨w, h, X, G, c⟩ := T.ex; obtain ⟨t, e⟩ := He.str_ok X G (He.SaysD.fact (congrArg (fun z : He.AlT => z.1) c.t) 18 rfl); exact ⟨_, e, t, rfl⟩
theorem Txt.c_MOST_FIGURES (T : Txt K mg) : ∃ u, mg "MOST_FIGURES" = some u ∧ RelV (.int 9) u := by obtain ⟨w, h, X, G, c⟩ := T.ex; obtain ⟨t, e⟩ := He.int_ok X G (He.SaysD.fact (congrArg (fun z : He.AlT => z.1) c.t) 19 rfl); exact ⟨_, e, t, rfl⟩
theorem Txt.g_BoardError (T : Txt K mg) : mg "BoardError" = some (.ref (He.ga K "BoardError")) := by obtain ⟨w, h, X, G, c⟩ := T.ex; exact He.glo_ok X G (He.SaysD.fact (congrArg (fun z : He.AlT => z.1) c.t) 20 rfl)
theorem Txt.x_BoardError (T : Txt K mg) : ExC K (He.ga K "BoardError") := by obtain ⟨w, h, X, G, c⟩ := T.ex; exact excB_ok (exK_at c.more 0 rfl)
theorem Txt.g_BadCount (T : Txt K mg) : mg "BadCount" = some (.ref (He.ga K "BadCount")) := by obtain ⟨w, h, X, G, c⟩ := T.ex; exact He.glo_ok X G (He.SaysD.fact (congrArg (fun z : He.AlT => z.1) c.t) 21 rfl)
theorem Txt.x_BadCount (T : Txt K mg) : ExC K (He.ga K "BadCount") := by obtain ⟨w, h, X, G, c⟩ := T.ex; exact excB_ok (exK_at c.more 1 rfl)
theorem Txt.na_BadCount_what (T : Txt K mg) : PySem.W.findIn K (.ref (He.ga K "BadCount")) "what" = some none := by obtain ⟨w, h, X, G, c⟩ := T.ex; exact He.noat_ok (He.SaysD.fact (congrArg (fun z : He.AlT => z.1) c.t) 22 rfl)
theorem Txt.na_BadCount_count (T : Txt K mg) : PySem.W.findIn K (.ref (He.ga K "BadCount")) "count" = some none := by obtain ⟨w, h, X, G, c⟩ := T.ex; exact He.noat_ok (He.SaysD.fact (congrArg (fun z : He.AlT => z.1) c.t) 23 rfl)
theorem Txt.xi_BadCount (T : Txt K mg) : PySem.W.findIn K (.ref (He.ga K "BadCount")) "__init__" = some (some (.ref (He.fAd K ("BadCount", some "__init__")))) := by obtain ⟨w, h, X, G, c⟩ := T.ex; exact eqB_ok (exK_at c.more 2 rfl)
theorem Txt.xt_BadCount (T : Txt K mg) : PySem.W.typeIn K (.ref (He.fAd K ("BadCount", some "__init__"))) = some (.type "function") := by obtain ⟨w, h, X, G, c⟩ := T.ex; exact eqB_ok (exK_at c.more 3 rfl)
theorem Txt.g_NoName (T : Txt K mg) : mg "NoName" = some (.ref (He.ga K "NoName")) := by obtain ⟨w, h, X, G, c⟩ := T.ex; exact He.glo_ok X G (He.SaysD.fact (congrArg (fun z : He.AlT => z.1) c.t) 24 rfl)
theorem Txt.x_NoName (T : Txt K mg) : ExC K (He.ga K "NoName") := by obtain ⟨w, h, X, G, c⟩ := T.ex; exact excB_ok (exK_at c.more 4 rfl)
theorem Txt.na_NoName_name (T : Txt K mg) : PySem.W.findIn K (.ref (He.ga K "NoName")) "name" = some none := by obtain ⟨w, h, X, G, c⟩ := T.ex; exact He.noat_ok (He.SaysD.fact (congrArg (fun z : He.AlT => z.1) c.t) 25 rfl)
theorem Txt.xi_NoName (T : Txt K mg) : PySem.W.findIn K (.ref (He.ga K "NoName")) "__init__" = some (some (.ref (He.fAd K ("NoName", some "__init__")))) := by obtain ⟨w, h, X, G, c⟩ := T.ex; exact eqB_ok (exK_at c.more 5 rfl)
theorem Txt.xt_NoName (T : Txt K mg) : PySem.W.typeIn K (.ref (He.fAd K ("NoName", some "__init__"))) = some (.type "function") := by obtain ⟨w, h, X, G, c⟩ := T.ex; exact eqB_ok (exK_at c.more 6 rfl)
theorem Txt.g_Twice (T : Txt K mg) : mg "Twice" = some (.ref (He.ga K "Twice")) := by obtain ⟨w, h, X, G, c⟩ := T.ex; exact He.glo_ok X G (He.SaysD.fact (congrArg (fun z : He.AlT => z.1) c.t) 26 rfl)
theorem Txt.x_Twice (T : Txt K mg) : ExC K (He.ga K "Twice") := by obtain ⟨w, h, X, G, c⟩ := T.ex; exact excB_ok (exK_at c.more 7 rfl)
theorem Txt.na_Twice_name (T : Txt K mg) : PySem.W.findIn K (.ref (He.ga K "Twice")) "name" = some none := by obtain ⟨w, h, X, G, c⟩ := T.ex; exact He.noat_ok (He.SaysD.fact (congrArg (fun z : He.AlT => z.1) c.t) 27 rfl)
theorem Txt.xi_Twice (T : Txt K mg) : PySem.W.findIn K (.ref (He.ga K "Twice")) "__init__" = some (some (.ref (He.fAd K ("Twice", some "__init__")))) := by obtain ⟨w, h, X, G, c⟩ := T.ex; exact eqB_ok (exK_at c.more 8 rfl)
theorem Txt.xt_Twice (T : Txt K mg) : PySem.W.typeIn K (.ref (He.fAd K ("Twice", some "__init__"))) = some (.type "function") := by obtain ⟨w, h, X, G, c⟩ := T.ex; exact eqB_ok (exK_at c.more 9 rfl)
theorem Txt.g_BadRow (T : Txt K mg) : mg "BadRow" = some (.ref (He.ga K "BadRow")) := by obtain ⟨w, h, X, G, c⟩ := T.ex; exact He.glo_ok X G (He.SaysD.fact (congrArg (fun z : He.AlT => z.1) c.t) 28 rfl)
theorem Txt.x_BadRow (T : Txt K mg) : ExC K (He.ga K "BadRow") := by obtain ⟨w, h, X, G, c⟩ := T.ex; exact excB_ok (exK_at c.more 10 rfl)
theorem Txt.na_BadRow_row (T : Txt K mg) : PySem.W.findIn K (.ref (He.ga K "BadRow")) "row" = some none := by obtain ⟨w, h, X, G, c⟩ := T.ex; exact He.noat_ok (He.SaysD.fact (congrArg (fun z : He.AlT => z.1) c.t) 29 rfl)
theorem Txt.xi_BadRow (T : Txt K mg) : PySem.W.findIn K (.ref (He.ga K "BadRow")) "__init__" = some (some (.ref (He.fAd K ("BadRow", some "__init__")))) := by obtain ⟨w, h, X, G, c⟩ := T.ex; exact eqB_ok (exK_at c.more 11 rfl)
theorem Txt.xt_BadRow (T : Txt K mg) : PySem.W.typeIn K (.ref (He.fAd K ("BadRow", some "__init__"))) = some (.type "function") := by obtain ⟨w, h, X, G, c⟩ := T.ex; exact eqB_ok (exK_at c.more 12 rfl)
theorem Txt.g_Question (T : Txt K mg) : mg "Question" = some (.ref (He.ga K "Question")) := by obtain ⟨w, h, X, G, c⟩ := T.ex; exact He.glo_ok X G (He.SaysD.fact (congrArg (fun z : He.AlT => z.1) c.t) 30 rfl)
theorem Txt.cl_Question (T : Txt K mg) : Cls K (He.ga K "Question") := by obtain ⟨w, h, X, G, c⟩ := T.ex; exact He.cls_ok (He.SaysD.fact (congrArg (fun z : He.AlT => z.1) c.t) 31 rfl)
theorem Txt.na_Question_lead (T : Txt K mg) : NoAttr K (He.ga K "Question") "lead" := by obtain ⟨w, h, X, G, c⟩ := T.ex; exact He.noat_ok (He.SaysD.fact (congrArg (fun z : He.AlT => z.1) c.t) 32 rfl)
theorem Txt.na_Question_follows (T : Txt K mg) : NoAttr K (He.ga K "Question") "follows" := by obtain ⟨w, h, X, G, c⟩ := T.ex; exact He.noat_ok (He.SaysD.fact (congrArg (fun z : He.AlT => z.1) c.t) 33 rfl)
theorem Txt.na_Question_holds (T : Txt K mg) : NoAttr K (He.ga K "Question") "holds" := by obtain ⟨w, h, X, G, c⟩ := T.ex; exact He.noat_ok (He.SaysD.fact (congrArg (fun z : He.AlT => z.1) c.t) 34 rfl)
theorem Txt.mk_Question (T : Txt K mg) : Mk K (He.ga K "Question") (He.fAd K ("Question", some "__init__")) := by obtain ⟨w, h, X, G, c⟩ := T.ex; exact He.mkr_ok (He.SaysD.fact (congrArg (fun z : He.AlT => z.1) c.t) 35 rfl)
theorem Txt.qe_Question (T : Txt K mg) : PySem.W.findIn K (.ref (He.ga K "Question")) "__eq__" = some (some (.ref (He.fAd K ("Question", some "__eq__")))) := by obtain ⟨w, h, X, G, c⟩ := T.ex; exact eqB_ok (exK_at c.more 13 rfl)
theorem Txt.qf_Question (T : Txt K mg) : PySem.W.isFn K (.ref (He.fAd K ("Question", some "__eq__"))) = true := by obtain ⟨w, h, X, G, c⟩ := T.ex; exact eqB_ok (exK_at c.more 14 rfl)
theorem Txt.qn_Question (T : Txt K mg) : PySem.W.findIn K (.ref (He.ga K "Question")) "__ne__" = some (some (.builtin "object.__ne__")) := by obtain ⟨w, h, X, G, c⟩ := T.ex; exact eqB_ok (exK_at c.more 15 rfl)
theorem Txt.qm_Question (T : Txt K mg) : PySem.W.mroIn K (He.ga K "Question") (.type "object") = some true := by obtain ⟨w, h, X, G, c⟩ := T.ex; exact eqB_ok (exK_at c.more 16 rfl)
theorem Txt.qs_Question (T : Txt K mg) : PySem.W.notFirst K (He.ga K "Question") (.type "str") = true := by obtain ⟨w, h, X, G, c⟩ := T.ex; exact eqB_ok (exK_at c.more 17 rfl)
theorem Txt.qc_Question (T : Txt K mg) : PySem.W.findIn K (.ref (He.ga K "Question")) "__class__" = some (some (.builtin "object.__class__")) := by obtain ⟨w, h, X, G, c⟩ := T.ex; exact eqB_ok (exK_at c.more 18 rfl)
theorem Txt.qg_Question (T : Txt K mg) : PySem.W.specialIn K (.builtin "object.__class__") "__get__" = some (some (.builtin "getset_descriptor.__get__")) := by obtain ⟨w, h, X, G, c⟩ := T.ex; exact eqB_ok (exK_at c.more 19 rfl)
theorem Txt.qt_Question (T : Txt K mg) : PySem.W.takesIn K (.builtin "object.__class__") = some true := by obtain ⟨w, h, X, G, c⟩ := T.ex; exact eqB_ok (exK_at c.more 20 rfl)
theorem Txt.qi_Question (T : Txt K mg) : PySem.W.kitOne K (.ref (He.ga K "Question")) (.ref (He.ga K "Question")) = some true := by obtain ⟨w, h, X, G, c⟩ := T.ex; exact eqB_ok (exK_at c.more 21 rfl)
theorem Txt.qj_Question (T : Txt K mg) : PySem.W.kitOne K (.type "str") (.ref (He.ga K "Question")) = some false := by obtain ⟨w, h, X, G, c⟩ := T.ex; exact eqB_ok (exK_at c.more 22 rfl)
theorem Txt.isc_Question (T : Txt K mg) : IsC K (He.ga K "Question") := by obtain ⟨w, h, X, G, c⟩ := T.ex; exact ⟨He.cls_ok ((He.SaysD.fact (congrArg (fun z : He.AlT => z.1) c.t) 36 rfl)), eqB_ok (exK_at c.more 23 rfl), eqB_ok (exK_at c.more 24 rfl), eqB_ok (exK_at c.more 25 rfl), eqB_ok (exK_at c.more 26 rfl)⟩
theorem Txt.ki_Question_Question (T : Txt K mg) : PySem.W.kitOne K (.ref (He.ga K "Question")) (.ref (He.ga K "Question")) = some true := by obtain ⟨w, h, X, G, c⟩ := T.ex; exact eqB_ok (exK_at c.more 27 rfl)
theorem Txt.g_is_name (T : Txt K mg) : mg "is_name" = some (.ref (He.fAd K ("is_name", none))) := by obtain ⟨w, h, X, G, c⟩ := T.ex; exact He.glo_ok X G (He.SaysD.fact (congrArg (fun z : He.AlT => z.1) c.t) 37 rfl)
theorem Txt.g_need_names (T : Txt K mg) : mg "need_names" = some (.ref (He.fAd K ("need_names", none))) := by obtain ⟨w, h, X, G, c⟩ := T.ex; exact He.glo_ok X G (He.SaysD.fact (congrArg (fun z : He.AlT => z.1) c.t) 38 rfl)
theorem Txt.g_need_once (T : Txt K mg) : mg "need_once" = some (.ref (He.fAd K ("need_once", none))) := by obtain ⟨w, h, X, G, c⟩ := T.ex; exact He.glo_ok X G (He.SaysD.fact (congrArg (fun z : He.AlT => z.1) c.t) 39 rfl)
theorem Txt.g_need_count (T : Txt K mg) : mg "need_count" = some (.ref (He.fAd K ("need_count", none))) := by obtain ⟨w, h, X, G, c⟩ := T.ex; exact He.glo_ok X G (He.SaysD.fact (congrArg (fun z : He.AlT => z.1) c.t) 40 rfl)
theorem Txt.g_question_row (T : Txt K mg) : mg "question_row" = some (.ref (He.fAd K ("question_row", none))) := by obtain ⟨w, h, X, G, c⟩ := T.ex; exact He.glo_ok X G (He.SaysD.fact (congrArg (fun z : He.AlT => z.1) c.t) 41 rfl)
theorem Txt.g_read_question (T : Txt K mg) : mg "read_question" = some (.ref (He.fAd K ("read_question", none))) := by obtain ⟨w, h, X, G, c⟩ := T.ex; exact He.glo_ok X G (He.SaysD.fact (congrArg (fun z : He.AlT => z.1) c.t) 42 rfl)
theorem Txt.g_groups_of (T : Txt K mg) : mg "groups_of" = some (.ref (He.fAd K ("groups_of", none))) := by obtain ⟨w, h, X, G, c⟩ := T.ex; exact He.glo_ok X G (He.SaysD.fact (congrArg (fun z : He.AlT => z.1) c.t) 43 rfl)
theorem Txt.g_move_row (T : Txt K mg) : mg "move_row" = some (.ref (He.fAd K ("move_row", none))) := by obtain ⟨w, h, X, G, c⟩ := T.ex; exact He.glo_ok X G (He.SaysD.fact (congrArg (fun z : He.AlT => z.1) c.t) 44 rfl)
theorem Txt.g_read_move (T : Txt K mg) : mg "read_move" = some (.ref (He.fAd K ("read_move", none))) := by obtain ⟨w, h, X, G, c⟩ := T.ex; exact He.glo_ok X G (He.SaysD.fact (congrArg (fun z : He.AlT => z.1) c.t) 45 rfl)
theorem Txt.g_read_number (T : Txt K mg) : mg "read_number" = some (.ref (He.fAd K ("read_number", none))) := by obtain ⟨w, h, X, G, c⟩ := T.ex; exact He.glo_ok X G (He.SaysD.fact (congrArg (fun z : He.AlT => z.1) c.t) 46 rfl)
theorem Txt.g_l_cell_at (T : Txt K mg) : mg "_law_cell_at" = some (.ref (He.fAd K ("_law_cell_at", none))) := by obtain ⟨w, h, X, G, c⟩ := T.ex; exact He.glo_ok X G (He.SaysD.fact (congrArg (fun z : He.AlT => z.1) c.t) 47 rfl)
theorem Txt.g_l_state (T : Txt K mg) : mg "_law_state" = some (.ref (He.fAd K ("_law_state", none))) := by obtain ⟨w, h, X, G, c⟩ := T.ex; exact He.glo_ok X G (He.SaysD.fact (congrArg (fun z : He.AlT => z.1) c.t) 48 rfl)
theorem Txt.g_l_digit (T : Txt K mg) : mg "_law_digit" = some (.ref (He.fAd K ("_law_digit", none))) := by obtain ⟨w, h, X, G, c⟩ := T.ex; exact He.glo_ok X G (He.SaysD.fact (congrArg (fun z : He.AlT => z.1) c.t) 49 rfl)
theorem Txt.g_l_name (T : Txt K mg) : mg "_law_name" = some (.ref (He.fAd K ("_law_name", none))) := by obtain ⟨w, h, X, G, c⟩ := T.ex; exact He.glo_ok X G (He.SaysD.fact (congrArg (fun z : He.AlT => z.1) c.t) 50 rfl)
theorem Txt.g_l_names (T : Txt K mg) : mg "_law_names" = some (.ref (He.fAd K ("_law_names", none))) := by obtain ⟨w, h, X, G, c⟩ := T.ex; exact He.glo_ok X G (He.SaysD.fact (congrArg (fun z : He.AlT => z.1) c.t) 51 rfl)
theorem Txt.g_l_words_of (T : Txt K mg) : mg "_law_words_of" = some (.ref (He.fAd K ("_law_words_of", none))) := by obtain ⟨w, h, X, G, c⟩ := T.ex; exact He.glo_ok X G (He.SaysD.fact (congrArg (fun z : He.AlT => z.1) c.t) 52 rfl)
theorem Txt.g_l_figure (T : Txt K mg) : mg "_law_figure" = some (.ref (He.fAd K ("_law_figure", none))) := by obtain ⟨w, h, X, G, c⟩ := T.ex; exact He.glo_ok X G (He.SaysD.fact (congrArg (fun z : He.AlT => z.1) c.t) 53 rfl)
theorem Txt.g_law (T : Txt K mg) : mg "law" = some (.ref (He.fAd K ("law", none))) := by obtain ⟨w, h, X, G, c⟩ := T.ex; exact He.glo_ok X G (He.SaysD.fact (congrArg (fun z : He.AlT => z.1) c.t) 54 rfl)
theorem Txt.d_BadCount_init (T : Txt K mg) : ∃ fd, FunD K "__init__" "BadCount.__init__" (defArgs s_BadCount_init) (defBody s_BadCount_init) (defScope s_BadCount_init) [] [] (He.fAd K ("BadCount", some "__init__")) fd := by obtain ⟨w, h, X, G, c⟩ := T.ex; exact He.SaysD.def_ (congrArg (fun z : He.AlT => z.1) c.t) 0 rfl
theorem Txt.d_NoName_init (T : Txt K mg) : ∃ fd, FunD K "__init__" "NoName.__init__" (defArgs s_NoName_init) (defBody s_NoName_init) (defScope s_NoName_init) [] [] (He.fAd K ("NoName", some "__init__")) fd := by obtain ⟨w, h, X, G, c⟩ := T.ex; exact He.SaysD.def_ (congrArg (fun z : He.AlT => z.1) c.t) 1 rfl
theorem Txt.d_Twice_init (T : Txt K mg) : ∃ fd, FunD K "__init__" "Twice.__init__" (defArgs s_Twice_init) (defBody s_Twice_init) (defScope s_Twice_init) [] [] (He.fAd K ("Twice", some "__init__")) fd := by obtain ⟨w, h, X, G, c⟩ := T.ex; exact He.SaysD.def_ (congrArg (fun z : He.AlT => z.1) c.t) 2 rfl
theorem Txt.d_BadRow_init (T : Txt K mg) : ∃ fd, FunD K "__init__" "BadRow.__init__" (defArgs s_BadRow_init) (defBody s_BadRow_init) (defScope s_BadRow_init) [] [] (He.fAd K ("BadRow", some "__init__")) fd := by obtain ⟨w, h, X, G, c⟩ := T.ex; exact He.SaysD.def_ (congrArg (fun z : He.AlT => z.1) c.t) 3 rfl
theorem Txt.d_is_name (T : Txt K mg) : ∃ fd, FunD K "is_name" "is_name" (defArgs s_is_name) (defBody s_is_name) (defScope s_is_name) [] [] (He.fAd K ("is_name", none)) fd := by obtain ⟨w, h, X, G, c⟩ := T.ex; exact He.SaysD.def_ (congrArg (fun z : He.AlT => z.1) c.t) 4 rfl
theorem Txt.d_need_names (T : Txt K mg) : ∃ fd, FunD K "need_names" "need_names" (defArgs s_need_names) (defBody s_need_names) (defScope s_need_names) [] [] (He.fAd K ("need_names", none)) fd := by obtain ⟨w, h, X, G, c⟩ := T.ex; exact He.SaysD.def_ (congrArg (fun z : He.AlT => z.1) c.t) 5 rfl
theorem Txt.d_need_once (T : Txt K mg) : ∃ fd, FunD K "need_once" "need_once" (defArgs s_need_once) (defBody s_need_once) (defScope s_need_once) [] [] (He.fAd K ("need_once", none)) fd := by obtain ⟨w, h, X, G, c⟩ := T.ex; exact He.SaysD.def_ (congrArg (fun z : He.AlT => z.1) c.t) 6 rfl
theorem Txt.d_need_count (T : Txt K mg) : ∃ fd, FunD K "need_count" "need_count" (defArgs s_need_count) (defBody s_need_count) (defScope s_need_count) [] [] (He.fAd K ("need_count", none)) fd := by obtain ⟨w, h, X, G, c⟩ := T.ex; exact He.SaysD.def_ (congrArg (fun z : He.AlT => z.1) c.t) 7 rfl
theorem Txt.d_Question_init (T : Txt K mg) : ∃ fd, FunD K "__init__" "Question.__init__" (defArgs s_Question_init) (defBody s_Question_init) (defScope s_Question_init) [V.non, V.non, V.non] [] (He.fAd K ("Question", some "__init__")) fd := by obtain ⟨w, h, X, G, c⟩ := T.ex; exact He.SaysD.def_ (congrArg (fun z : He.AlT => z.1) c.t) 8 rfl
theorem Txt.d_Question_eq (T : Txt K mg) : ∃ fd, FunD K "__eq__" "Question.__eq__" (defArgs s_Question_eq) (defBody s_Question_eq) (defScope s_Question_eq) [] [] (He.fAd K ("Question", some "__eq__")) fd := by obtain ⟨w, h, X, G, c⟩ := T.ex; exact He.SaysD.def_ (congrArg (fun z : He.AlT => z.1) c.t) 9 rfl
theorem Txt.d_question_row (T : Txt K mg) : ∃ fd, FunD K "question_row" "question_row" (defArgs s_question_row) (defBody s_question_row) (defScope s_question_row) [] [] (He.fAd K ("question_row", none)) fd := by obtain ⟨w, h, X, G, c⟩ := T.ex; exact He.SaysD.def_ (congrArg (fun z : He.AlT => z.1) c.t) 10 rfl
theorem Txt.d_read_question (T : Txt K mg) : ∃ fd, FunD K "read_question" "read_question" (defArgs s_read_question) (defBody s_read_question) (defScope s_read_question) [] [] (He.fAd K ("read_question", none)) fd := by obtain ⟨w, h, X, G, c⟩ := T.ex; exact He.SaysD.def_ (congrArg (fun z : He.AlT => z.1) c.t) 11 rfl
theorem Txt.d_groups_of (T : Txt K mg) : ∃ fd, FunD K "groups_of" "groups_of" (defArgs s_groups_of) (defBody s_groups_of) (defScope s_groups_of) [] [] (He.fAd K ("groups_of", none)) fd := by obtain ⟨w, h, X, G, c⟩ := T.ex; exact He.SaysD.def_ (congrArg (fun z : He.AlT => z.1) c.t) 12 rfl
theorem Txt.d_move_row (T : Txt K mg) : ∃ fd, FunD K "move_row" "move_row" (defArgs s_move_row) (defBody s_move_row) (defScope s_move_row) [] [] (He.fAd K ("move_row", none)) fd := by obtain ⟨w, h, X, G, c⟩ := T.ex; exact He.SaysD.def_ (congrArg (fun z : He.AlT => z.1) c.t) 13 rfl
theorem Txt.d_read_move (T : Txt K mg) : ∃ fd, FunD K "read_move" "read_move" (defArgs s_read_move) (defBody s_read_move) (defScope s_read_move) [] [] (He.fAd K ("read_move", none)) fd := by obtain ⟨w, h, X, G, c⟩ := T.ex; exact He.SaysD.def_ (congrArg (fun z : He.AlT => z.1) c.t) 14 rfl
theorem Txt.d_read_number (T : Txt K mg) : ∃ fd, FunD K "read_number" "read_number" (defArgs s_read_number) (defBody s_read_number) (defScope s_read_number) [] [] (He.fAd K ("read_number", none)) fd := by obtain ⟨w, h, X, G, c⟩ := T.ex; exact He.SaysD.def_ (congrArg (fun z : He.AlT => z.1) c.t) 15 rfl
theorem Txt.d_l_cell_at (T : Txt K mg) : ∃ fd, FunD K "_law_cell_at" "_law_cell_at" (defArgs s_l_cell_at) (defBody s_l_cell_at) (defScope s_l_cell_at) [] [] (He.fAd K ("_law_cell_at", none)) fd := by obtain ⟨w, h, X, G, c⟩ := T.ex; exact He.SaysD.def_ (congrArg (fun z : He.AlT => z.1) c.t) 16 rfl
theorem Txt.d_l_state (T : Txt K mg) : ∃ fd, FunD K "_law_state" "_law_state" (defArgs s_l_state) (defBody s_l_state) (defScope s_l_state) [] [] (He.fAd K ("_law_state", none)) fd := by obtain ⟨w, h, X, G, c⟩ := T.ex; exact He.SaysD.def_ (congrArg (fun z : He.AlT => z.1) c.t) 17 rfl
theorem Txt.d_l_digit (T : Txt K mg) : ∃ fd, FunD K "_law_digit" "_law_digit" (defArgs s_l_digit) (defBody s_l_digit) (defScope s_l_digit) [] [] (He.fAd K ("_law_digit", none)) fd := by obtain ⟨w, h, X, G, c⟩ := T.ex; exact He.SaysD.def_ (congrArg (fun z : He.AlT => z.1) c.t) 18 rfl
theorem Txt.d_l_name (T : Txt K mg) : ∃ fd, FunD K "_law_name" "_law_name" (defArgs s_l_name) (defBody s_l_name) (defScope s_l_name) [] [] (He.fAd K ("_law_name", none)) fd := by obtain ⟨w, h, X, G, c⟩ := T.ex; exact He.SaysD.def_ (congrArg (fun z : He.AlT => z.1) c.t) 19 rfl
theorem Txt.d_l_names (T : Txt K mg) : ∃ fd, FunD K "_law_names" "_law_names" (defArgs s_l_names) (defBody s_l_names) (defScope s_l_names) [] [] (He.fAd K ("_law_names", none)) fd := by obtain ⟨w, h, X, G, c⟩ := T.ex; exact He.SaysD.def_ (congrArg (fun z : He.AlT => z.1) c.t) 20 rfl
theorem Txt.d_l_words_of (T : Txt K mg) : ∃ fd, FunD K "_law_words_of" "_law_words_of" (defArgs s_l_words_of) (defBody s_l_words_of) (defScope s_l_words_of) [] [] (He.fAd K ("_law_words_of", none)) fd := by obtain ⟨w, h, X, G, c⟩ := T.ex; exact He.SaysD.def_ (congrArg (fun z : He.AlT => z.1) c.t) 21 rfl
theorem Txt.d_l_figure (T : Txt K mg) : ∃ fd, FunD K "_law_figure" "_law_figure" (defArgs s_l_figure) (defBody s_l_figure) (defScope s_l_figure) [] [] (He.fAd K ("_law_figure", none)) fd := by obtain ⟨w, h, X, G, c⟩ := T.ex; exact He.SaysD.def_ (congrArg (fun z : He.AlT => z.1) c.t) 22 rfl
theorem Txt.d_law (T : Txt K mg) : ∃ fd, FunD K "law" "law" (defArgs s_law) (defBody s_law) (defScope s_law) [] [] (He.fAd K ("law", none)) fd := by obtain ⟨w, h, X, G, c⟩ := T.ex; exact He.SaysD.def_ (congrArg (fun z : He.AlT => z.1) c.t) 23 rfl
end

def q_Question : Nat → Bool := fun c => decide (c ∈ ([0] : List Nat))
noncomputable section
/-- the classes that are compared, each with the number of its fields -/
def eqcs : List (Nat × Nat) := [(0, 3)]
def m_Question_eq (n : Nat) : List S → Rs S := fnM 2 [0, 1]
    (ret (toS (andV (frz (op1 (isF q_Question) (pk 1))) (andV (frz (op2 (eqBF eqcs n) (ex (frz (op1 (fldF [(0, 0)]) (pk 0)))) (ex (frz (op1 (fldF [(0, 0)]) (pk 1)))))) (andV (frz (op2 (eqBF eqcs n) (ex (frz (op1 (fldF [(0, 1)]) (pk 0)))) (ex (frz (op1 (fldF [(0, 1)]) (pk 1)))))) (frz (op2 (eqBF eqcs n) (ex (frz (op1 (fldF [(0, 2)]) (pk 0)))) (ex (frz (op1 (fldF [(0, 2)]) (pk 1)))))))))))
def m_eqs : Nat → Nat → List S → Rs S
  | 0 => m_Question_eq
  | _ => fun _ _ => .stuck
theorem told_Question (n : Nat) (x0 x1 x2 y0 y1 y2 : D) (a0 a1 a2 : Bool) (hx0 : eqBF eqcs n x0 y0 = some (sB a0)) (hx1 : eqBF eqcs n x1 y1 = some (sB a1)) (hx2 : eqBF eqcs n x2 y2 = some (sB a2)) : ∃ ρ, m_Question_eq n [.d (.obj 0 [x0, x1, x2]), .d (.obj 0 [y0, y1, y2])] = .ok (.d (.bl (a0 && (a1 && (a2 && true))))) ρ := by
  cases a0 <;> cases a1 <;> cases a2 <;> exact ⟨[.d (.obj 0 [x0, x1, x2]), .d (.obj 0 [y0, y1, y2])], by simp [m_Question_eq, fnM, endF_ret, endF_nx, endF_exc, endF_stuck, fin, okB, wn_un, wn_d, wn_L, wn_M, wn_T, wn_O, wn_X, dat_un, dat_d, dat_L, dat_M, dat_T, dat_O, dat_X, bc, b0, ifS, ret, retN, My.set, sto, stoM, drp, asg, asB, asT, notT, andT, orT, op1, op2, opn, pk, ex, kd, rd, mv, frz, toS, arc, ar0, resAll, res_sl, res_dt, Option.bind_some, ixF, ixS, lenF, intF, strF, cmpF, addF, subF, mulF, modF, fdivF, eqF, neF, deq, truD, argsS, argS, sls, backS, rsB, callf, put_nm, put_tp, put_tl, puts_nil, puts_cons, lsc, ls0, lstG, tupG, forS, putC, itD, itsOf, itN, rng1, mut1, mut0, appF, Rs.bind_ok, Rs.bind_exc, Rs.bind_stuck, Rs.ctl_ok, Rs.ctl_exc, Rs.ctl_stuck, Rs.opt_some, Rs.opt_none, Ctl.then_nx, Ctl.then_ret, Ctl.then_exc, Ctl.then_brk, Ctl.then_cnt, Ctl.then_stuck, isN, notN, ifE, fldF, isF, List.lookup, clsOf, orr, callm, mkf, mkB, mk0, stf, slG, ext1, augI, chn, leF, ltF, gtF, geF, enm, enmT, part, noPart, tupleF, listF, q_Question, andV, orV, notV, hx0, hx1, hx2]⟩
theorem far_Question (n : Nat) (x0 x1 x2 : D) (c' : Nat) (ys : List D) (ne : ¬ 0 = c') : ∃ ρ, m_Question_eq n [.d (.obj 0 [x0, x1, x2]), .d (.obj c' ys)] = .ok (.d (.bl false)) ρ := by
  exact ⟨[.d (.obj 0 [x0, x1, x2]), .d (.obj c' ys)], by simp [m_Question_eq, fnM, endF_ret, endF_nx, endF_exc, endF_stuck, fin, okB, wn_un, wn_d, wn_L, wn_M, wn_T, wn_O, wn_X, dat_un, dat_d, dat_L, dat_M, dat_T, dat_O, dat_X, bc, b0, ifS, ret, retN, My.set, sto, stoM, drp, asg, asB, asT, notT, andT, orT, op1, op2, opn, pk, ex, kd, rd, mv, frz, toS, arc, ar0, resAll, res_sl, res_dt, Option.bind_some, ixF, ixS, lenF, intF, strF, cmpF, addF, subF, mulF, modF, fdivF, eqF, neF, deq, truD, argsS, argS, sls, backS, rsB, callf, put_nm, put_tp, put_tl, puts_nil, puts_cons, lsc, ls0, lstG, tupG, forS, putC, itD, itsOf, itN, rng1, mut1, mut0, appF, Rs.bind_ok, Rs.bind_exc, Rs.bind_stuck, Rs.ctl_ok, Rs.ctl_exc, Rs.ctl_stuck, Rs.opt_some, Rs.opt_none, Ctl.then_nx, Ctl.then_ret, Ctl.then_exc, Ctl.then_brk, Ctl.then_cnt, Ctl.then_stuck, isN, notN, ifE, fldF, isF, List.lookup, clsOf, orr, callm, mkf, mkB, mk0, stf, slG, ext1, augI, chn, leF, ltF, gtF, geF, enm, enmT, part, noPart, tupleF, listF, q_Question, andV, orV, notV, show ¬ c' = 0 from fun z => ne z.symm]⟩
def m_is_name : List S → Rs S := fnM 2 [0]
    (bc (ifS (orT (notT (asB (chn leF leF (ex (kd (.int 1))) (ex (frz (opn lenF (arc (pk 0) ar0)))) (ex (kd (.int 10)))))) (asB (op2 ninF (ex (frz (op2 ixF (pk 0) (ex (kd (.int 0)))))) (ex (kd (.str "abcdefghijklmnopqrstuvwxyz")))))) (ret (toS (kd (.bl false)))) b0)
    (ret (opn allF (arc (ex (frz (lcG (itD (rd 0)) (.nm 1) [1] tru (frz (op2 inF (pk 1) (ex (kd (.str "abcdefghijklmnopqrstuvwxyz0123456789")))))))) ar0))))
def m_need_names : List S → Rs S := fnM 2 [0]
    (forS (itD (rd 0)) (.nm 1) (ifS (notT (asT (ex (frz (callf 1 m_is_name (arc (pk 1) ar0)))))) (rsx 2 1 (lsc (rd 1) ls0)) b0))
def m_need_once : List S → Rs S := fnM 3 [0]
    (forS (enm (rd 0)) (.tp [(.nm 1), (.nm 2)]) (ifS (asB (op2 inF (pk 2) (ex (frz (slG (pk 0) noPart (part (rd 1))))))) (rsx 3 1 (lsc (rd 2) ls0)) b0))
def m_need_count : List S → Rs S := fnM 4 [0, 1, 2, 3]
    (ifS (notT (asB (chn leF leF (pk 2) (pk 1) (pk 3)))) (rsx 1 2 (lsc (rd 0) (lsc (rd 1) ls0))) b0)
def m_Question_init : List S → Rs S := fnM 11 [0, 1, 2, 3]
    (bc (set 4 (toS (ifE (asB (op2 isN (pk 2) (ex (kd .non)))) (frz (lstG ls0)) (rd 2))))
    (bc (set 5 (toS (ifE (asB (op2 isN (pk 3) (ex (kd .non)))) (frz (lstG ls0)) (rd 3))))
    (bc (drp (callf 4 m_need_count (arc (ex (kd (.str "follows"))) (arc (ex (frz (opn lenF (arc (pk 4) ar0)))) (arc (ex (kd (.int 0))) (arc (ex (kd (.int 6))) ar0))))))
    (bc (drp (callf 1 m_need_names (arc (ex (ifE (asB (op2 isN (pk 1) (ex (kd .non)))) (frz (lstG ls0)) (frz (lstG (lsc (rd 1) ls0))))) ar0)))
    (bc (drp (callf 1 m_need_names (arc (pk 4) ar0)))
    (bc (drp (callf 1 m_need_names (arc (ex (frz (lc2G (itD (rd 5)) (.nm 6) [6, 7] (itD (rd 6)) (.nm 7) [7] (rd 7)))) ar0)))
    (bc (drp (callf 1 m_need_once (arc (ex (frz (lcG (itD (rd 5)) (.tp [(.nm 8), (.nm 9)]) [8, 9] tru (rd 8)))) ar0)))
    (bc (stf 0 0 0 (rd 1))
    (bc (stf 0 0 1 (frz (opn tupleF (arc (pk 4) ar0))))
    (stf 0 0 2 (frz (opn tupleF (arc (ex (frz (lcG (itD (rd 5)) (.tp [(.nm 8), (.nm 10)]) [8, 10] tru (frz (tupG (lsc (rd 8) (lsc (rd 10) ls0))))))) ar0)))))))))))))
def m_question_row : List S → Rs S := fnM 5 [0]
    (bc (set 1 (ifF (asB (op2 isN (ex (frz (op1 (fldF [(0, 0)]) (pk 0)))) (ex (kd .non)))) (lstG ls0) (lstG (lsc (kd (.str "lead")) (lsc (frz (op1 (fldF [(0, 0)]) (pk 0))) ls0)))))
    (bc (forS (itD (frz (op1 (fldF [(0, 1)]) (pk 0)))) (.nm 2) (drp (ext1 1 (lstG (lsc (kd (.str "with")) (lsc (rd 2) ls0))))))
    (bc (forS (itD (frz (op1 (fldF [(0, 2)]) (pk 0)))) (.tp [(.nm 3), (.nm 4)]) (drp (ext1 1 (lstG (lsc (kd (.str "holds")) (lsc (rd 3) (lsc (rd 4) ls0)))))))
    (ret (ifF (asT (pk 1)) (toS (joinG (kd (.str " ")) (rd 1))) (toS (kd (.str "any"))))))))
def m_groups_of : List S → Rs S := fnM 6 [0, 1, 2]
    (bc (set 4 (lstG ls0))
    (bc (whL (andT (asB (op2 ltF (pk 3) (ex (frz (opn lenF (arc (pk 2) ar0)))))) (asB (op2 eqF (ex (frz (op2 ixF (pk 2) (pk 3)))) (pk 0)))) (bc (set 5 (slG (pk 2) (part (frz (op2 addF (pk 3) (ex (kd (.int 1)))))) (part (frz (op2 addF (ex (frz (op2 addF (pk 3) (ex (kd (.int 1)))))) (pk 1))))))
    (bc (ifS (asB (op2 ltF (ex (frz (opn lenF (arc (pk 5) ar0)))) (pk 1))) (rsx 4 1 (lsc (kd (.int 0)) ls0)) b0)
    (bc (drp (mut1 4 appF (rd 5)))
    (augI 3 (fun i j => i + j) (frz (op2 addF (ex (kd (.int 1))) (pk 1))))))) 1000000)
    (ret (tupG (lsc (rd 4) (lsc (rd 3) ls0))))))
def m_read_question : List S → Rs S := fnM 8 [0]
    (bc (ifS (asB (op2 eqF (pk 0) (ex (kd (.str "any"))))) (ret (mkf 0 4 m_Question_init (kan 3 ar0))) b0)
    (bc (set 1 (splitG (rd 0) (kd (.str " "))))
    (bc (ifS (asB (op2 inF (ex (kd (.str ""))) (pk 1))) (rsx 4 1 (lsc (kd (.int 0)) ls0)) b0)
    (bc (asg (frz (callf 4 m_groups_of (arc (ex (kd (.str "lead"))) (arc (ex (kd (.int 1))) (arc (pk 1) (arc (ex (kd (.int 0))) ar0)))))) (.tp [(.nm 2), (.nm 3)]))
    (bc (asg (frz (callf 4 m_groups_of (arc (ex (kd (.str "with"))) (arc (ex (kd (.int 1))) (arc (pk 1) (arc (ex (rd 3)) ar0)))))) (.tp [(.nm 4), (.nm 3)]))
    (bc (asg (frz (callf 4 m_groups_of (arc (ex (kd (.str "holds"))) (arc (ex (kd (.int 2))) (arc (pk 1) (arc (ex (rd 3)) ar0)))))) (.tp [(.nm 5), (.nm 3)]))
    (bc (ifS (orT (asB (op2 gtF (ex (frz (opn lenF (arc (pk 2) ar0)))) (ex (kd (.int 1))))) (asB (op2 ltF (pk 3) (ex (frz (opn lenF (arc (pk 1) ar0))))))) (rsx 4 1 (lsc (kd (.int 0)) ls0)) b0)
    (bc (set 6 (toS (ifE (asT (pk 2)) (frz (op2 ixF (ex (frz (op2 ixF (pk 2) (ex (kd (.int 0)))))) (ex (kd (.int 0))))) (kd .non))))
    (ret (mkf 0 4 m_Question_init (arc (pk 6) (arc (ex (frz (lcG (itD (rd 4)) (.nm 7) [7] tru (frz (op2 ixF (pk 7) (ex (kd (.int 0)))))))) (arc (ex (frz (lcG (itD (rd 5)) (.nm 7) [7] tru (frz (tupG (lsc (frz (op2 ixF (pk 7) (ex (kd (.int 0))))) (lsc (frz (op2 ixF (pk 7) (ex (kd (.int 1))))) ls0))))))) ar0)))))))))))))
def m_move_row : List S → Rs S := fnM 3 [0]
    (bc (asg (rd 0) (.tp [(.nm 1), (.nm 2)]))
    (ret (toS (fsG [(fmG (rd 1)), (kd (.str " ")), (fmG (rd 2))] Str.empty))))
def m_read_number : List S → Rs S := fnM 2 [0]
    (bc (ifS (orT (notT (asB (chn leF leF (ex (kd (.int 1))) (ex (frz (opn lenF (arc (pk 0) ar0)))) (ex (kd (.int 9)))))) (notT (asT (ex (frz (opn allF (arc (ex (frz (lcG (itD (rd 0)) (.nm 1) [1] tru (frz (op2 inF (pk 1) (ex (kd (.str "0123456789")))))))) ar0))))))) (rsx 4 1 (lsc (kd (.int 0)) ls0)) b0)
    (bc (ifS (andT (asB (op2 eqF (ex (frz (op2 ixF (pk 0) (ex (kd (.int 0)))))) (ex (kd (.str "0"))))) (asB (op2 neF (pk 0) (ex (kd (.str "0")))))) (rsx 4 1 (lsc (kd (.int 0)) ls0)) b0)
    (ret (opn intW (arc (pk 0) ar0)))))
def m_read_move : List S → Rs S := fnM 2 [0]
    (bc (set 1 (splitG (rd 0) (kd (.str " "))))
    (bc (ifS (asB (op2 neF (ex (frz (opn lenF (arc (pk 1) ar0)))) (ex (kd (.int 2))))) (rsx 4 1 (lsc (kd (.int 0)) ls0)) b0)
    (ret (tupG (lsc (frz (callf 1 m_read_number (arc (ex (frz (op2 ixF (pk 1) (ex (kd (.int 0)))))) ar0))) (lsc (frz (callf 1 m_read_number (arc (ex (frz (op2 ixF (pk 1) (ex (kd (.int 1)))))) ar0))) ls0))))))
def m_l_cell_at : List S → Rs S := fnM 2 [0, 1]
    (bc (ifS (asB (op2 ltF (pk 1) (ex (frz (opn lenF (arc (pk 0) ar0)))))) (ret (op2 ixF (pk 0) (pk 1))) b0)
    (ret (toS (kd (.int 0)))))
def m_l_state : List S → Rs S := fnM 1 []
    (bc (set 0 (opn absF (arc (pk 0) ar0)))
    (ret (lstG (lsc (frz (op2 mulF (pk 0) (ex (frz (opn intF (arc (ex (frz (op2 geF (pk 0) (ex (frz (op2 powF (ex (kd (.int 10))) (ex (kd (.int 18))))))))) ar0)))))) (lsc (frz (op2 addF (ex (frz (op2 modF (pk 0) (ex (kd (.int 2147483629)))))) (ex (kd (.int 7))))) (lsc (frz (op2 modF (pk 0) (ex (kd (.int 2147483587))))) ls0))))))
def m_l_digit : List S → Rs S := fnM 4 [0, 1]
    (bc (ifS (asB (op2 gtF (ex (frz (op2 ixF (pk 0) (ex (kd (.int 0)))))) (ex (kd (.int 0))))) (bc (set 2 (op2 modF (ex (frz (op2 ixF (pk 0) (ex (kd (.int 0)))))) (pk 1)))
    (bc (sto 0 (kd (.int 0)) (frz (op2 fdivF (ex (frz (op2 ixF (pk 0) (ex (kd (.int 0)))))) (pk 1))))
    (ret (mv 2)))) b0)
    (bc (set 3 (op2 mulF (ex (frz (op2 ixF (pk 0) (ex (kd (.int 1)))))) (ex (frz (op2 addF (ex (frz (op2 fdivF (ex (frz (op2 ixF (pk 0) (ex (kd (.int 1)))))) (ex (kd (.int 1009)))))) (ex (kd (.int 69621))))))))
    (bc (sto 0 (kd (.int 1)) (frz (op2 addF (ex (frz (op2 modF (ex (frz (op2 addF (pk 3) (ex (frz (op2 ixF (pk 0) (ex (kd (.int 2))))))))) (ex (kd (.int 2147483629)))))) (ex (kd (.int 7))))))
    (ret (op2 modF (ex (frz (op2 fdivF (ex (frz (op2 ixF (pk 0) (ex (kd (.int 1)))))) (ex (kd (.int 97)))))) (pk 1))))))
def m_l_name : List S → Rs S := fnM 8 [0, 1]
    (bc (set 2 (toS (kd (.str "abcdefghijklmnopqrstuvwxyz0123456789"))))
    (bc (set 3 (callf 2 m_l_digit (arc (pk 0) (arc (ex (kd (.int 7))) ar0))))
    (bc (set 4 (op2 ixF (pk 2) (ex (frz (callf 2 m_l_digit (arc (pk 0) (arc (ex (kd (.int 26))) ar0)))))))
    (bc (forS (itN rng1 (arc (ex (frz (callf 2 m_l_digit (arc (pk 0) (arc (ex (kd (.int 4))) ar0))))) ar0)) (.nm 5) (set 4 (op2 addF (pk 4) (ex (frz (op2 ixF (pk 2) (ex (frz (callf 2 m_l_digit (arc (pk 0) (arc (ex (kd (.int 36))) ar0)))))))))))
    (bc (ifS (asB (op2 eqF (pk 3) (ex (kd (.int 6))))) (set 4 (op2 ixF (ex (frz (lstG (lsc (kd (.str "write")) (lsc (kd (.str "wait")) (lsc (kd (.str "else")) (lsc (kd (.str "or")) (lsc (kd (.str "lead")) (lsc (kd (.str "with")) (lsc (kd (.str "holds")) (lsc (kd (.str "any")) (lsc (kd (.str "skip")) (lsc (kd (.str "mark")) ls0))))))))))))) (ex (frz (callf 2 m_l_digit (arc (pk 0) (arc (ex (kd (.int 10))) ar0))))))) b0)
    (bc (set 6 (toS (rd 4)))
    (bc (set 7 (toS (kd (.int 0))))
    (bc (whL (asB (op2 inF (pk 6) (pk 1))) (bc (set 7 (op2 addF (pk 7) (ex (kd (.int 1)))))
    (set 6 (op2 addF (pk 4) (ex (frz (opn strF (arc (pk 7) ar0))))))) 1000000)
    (ret (mv 6))))))))))
def m_l_names : List S → Rs S := fnM 4 [0, 1]
    (bc (set 2 (lstG ls0))
    (bc (forS (itN rng1 (arc (pk 1) ar0)) (.nm 3) (drp (mut1 2 appF (frz (callf 2 m_l_name (arc (pk 0) (arc (pk 2) ar0)))))))
    (ret (mv 2))))
def m_l_words_of : List S → Rs S := fnM 7 [0, 1, 2]
    (bc (set 3 (lstG ls0))
    (bc (ifS (asB (op2 notN (pk 0) (ex (kd .non)))) (set 3 (lstG (lsc (kd (.str "lead")) (lsc (rd 0) ls0)))) b0)
    (bc (forS (itD (rd 1)) (.nm 4) (set 3 (op2 addF (pk 3) (ex (frz (lstG (lsc (kd (.str "with")) (lsc (rd 4) ls0))))))))
    (bc (forS (itD (rd 2)) (.tp [(.nm 5), (.nm 6)]) (set 3 (op2 addF (pk 3) (ex (frz (lstG (lsc (kd (.str "holds")) (lsc (rd 5) (lsc (rd 6) ls0)))))))))
    (ret (toS (joinG (kd (.str " ")) (frz (op2 addF (pk 3) (ex (frz (repG (lstG (lsc (kd (.str "any")) ls0)) (ex (frz (opn intF (arc (ex (frz (op2 eqF (pk 3) (ex (frz (lstG ls0)))))) ar0))))))))))))))))
def m_l_figure : List S → Rs S := fnM 1 [0]
    (ret (lstG (lsc (frz (callf 2 m_l_digit (arc (pk 0) (arc (ex (kd (.int 10))) ar0)))) (lsc (frz (callf 2 m_l_digit (arc (pk 0) (arc (ex (kd (.int 1000))) ar0)))) (lsc (frz (op2 addF (ex (frz (op2 mulF (ex (frz (callf 2 m_l_digit (arc (pk 0) (arc (ex (frz (op2 powF (ex (kd (.int 10))) (ex (kd (.int 5)))))) ar0))))) (ex (frz (op2 powF (ex (kd (.int 10))) (ex (kd (.int 4))))))))) (ex (frz (callf 2 m_l_digit (arc (pk 0) (arc (ex (frz (op2 powF (ex (kd (.int 10))) (ex (kd (.int 4)))))) ar0))))))) ls0)))))
def m_law : List S → Rs S := fnM 16 [0]
    (bc (forS (itN rng1 (arc (ex (frz (opn max2F (arc (ex (kd (.int 1))) (arc (ex (frz (opn min2F (arc (ex (kd (.int 12))) (arc (ex (frz (opn lenF (arc (pk 0) ar0)))) ar0))))) ar0))))) ar0)) (.nm 1) (bc (set 2 (callf 1 m_l_state (arc (ex (frz (op2 addF (ex (frz (callf 2 m_l_cell_at (arc (pk 0) (arc (pk 1) ar0))))) (ex (frz (op2 mulF (ex (kd (.int 29))) (pk 1))))))) ar0)))
    (bc (set 3 (op2 addF (ex (frz (callf 2 m_l_names (arc (pk 2) (arc (ex (kd (.int 3))) ar0))))) (ex (frz (lstG (lsc (frz (op2 ixF (ex (frz (lstG (lsc (kd (.str "lead")) (lsc (kd (.str "with")) (lsc (kd (.str "holds")) (lsc (kd (.str "any")) ls0))))))) (ex (frz (callf 2 m_l_digit (arc (pk 2) (arc (ex (kd (.int 4))) ar0))))))) ls0))))))
    (bc (set 4 (op2 ixF (ex (frz (lstG (lsc (kd .non) (lsc (frz (op2 ixF (pk 3) (ex (frz (callf 2 m_l_digit (arc (pk 2) (arc (ex (kd (.int 4))) ar0))))))) ls0))))) (ex (frz (callf 2 m_l_digit (arc (pk 2) (arc (ex (kd (.int 2))) ar0)))))))
    (bc (set 6 (lcG (itN rng1 (arc (ex (frz (callf 2 m_l_digit (arc (pk 2) (arc (ex (kd (.int 7))) ar0))))) ar0)) (.nm 5) [5] tru (frz (op2 ixF (pk 3) (ex (frz (callf 2 m_l_digit (arc (pk 2) (arc (ex (kd (.int 4))) ar0)))))))))
    (bc (set 7 (slG (ex (frz (srtZ (setZ (arc (pk 3) ar0))))) noPart (part (frz (callf 2 m_l_digit (arc (pk 2) (arc (ex (kd (.int 5))) ar0)))))))
    (bc (set 8 (lcG (itD (rd 7)) (.nm 15) [15] tru (frz (tupG (lsc (rd 15) (lsc (frz (op2 ixF (pk 3) (ex (frz (callf 2 m_l_digit (arc (pk 2) (arc (ex (kd (.int 4))) ar0))))))) ls0))))))
    (bc (set 9 (lstG (lsc (frz (opn listF (arc (pk 6) ar0))) (lsc (frz (opn listF (arc (pk 8) ar0))) ls0))))
    (bc (set 10 (mkf 0 4 m_Question_init (arc (pk 4) (arc (ex (frz (op2 ixF (pk 9) (ex (kd (.int 0)))))) (arc (ex (frz (op2 ixF (pk 9) (ex (kd (.int 1)))))) ar0)))))
    (bc (set 11 (callf 3 m_l_words_of (arc (pk 4) (arc (pk 6) (arc (pk 8) ar0)))))
    (bc (forS (itN rng1 (arc (ex (kd (.int 2))) ar0)) (.nm 5) (bc (set 12 (callf 1 m_read_question (arc (pk 11) ar0)))
    (bc (ifS (orT (asB (op2 (neBF eqcs 6) (ex (frz (callf 1 m_question_row (arc (pk 10) ar0)))) (pk 11))) (orT (notT (asT (ex (frz (op1 (isF q_Question) (pk 12)))))) (notT (asB (op2 (eqBF eqcs 6) (pk 12) (pk 10)))))) (ret (toS (kd (.bl false)))) b0)
    (bc (ifS (asB (op2 (neBF eqcs 6) (ex (frz (tupG (lsc (frz (op1 (fldF [(0, 0)]) (pk 12))) (lsc (frz (op1 (fldF [(0, 1)]) (pk 12))) (lsc (frz (op1 (fldF [(0, 2)]) (pk 12))) ls0)))))) (ex (frz (tupG (lsc (rd 4) (lsc (frz (opn tupleF (arc (pk 6) ar0))) (lsc (frz (opn tupleF (arc (pk 8) ar0))) ls0)))))))) (ret (toS (kd (.bl false)))) b0)
    (ifS (orT (asB (op2 (neBF eqcs 6) (ex (frz (callf 1 m_question_row (arc (pk 12) ar0)))) (pk 11))) (asB (op2 (neBF eqcs 6) (pk 9) (ex (frz (lstG (lsc (rd 6) (lsc (rd 8) ls0)))))))) (ret (toS (kd (.bl false)))) b0)))))
    (bc (set 13 (op2 ixF (ex (frz (callf 1 m_l_figure (arc (pk 2) ar0)))) (ex (frz (callf 2 m_l_digit (arc (pk 2) (arc (ex (kd (.int 3))) ar0)))))))
    (bc (set 14 (op2 ixF (ex (frz (callf 1 m_l_figure (arc (pk 2) ar0)))) (ex (frz (callf 2 m_l_digit (arc (pk 2) (arc (ex (kd (.int 3))) ar0)))))))
    (ifS (orT (asB (op2 (neBF eqcs 6) (ex (frz (callf 1 m_move_row (arc (ex (frz (tupG (lsc (rd 13) (lsc (rd 14) ls0))))) ar0)))) (ex (frz (op2 addF (ex (frz (op2 addF (ex (frz (opn strF (arc (pk 13) ar0)))) (ex (kd (.str " ")))))) (ex (frz (opn strF (arc (pk 14) ar0))))))))) (asB (op2 (neBF eqcs 6) (ex (frz (callf 1 m_read_move (arc (ex (frz (callf 1 m_move_row (arc (ex (frz (tupG (lsc (rd 13) (lsc (rd 14) ls0))))) ar0)))) ar0)))) (ex (frz (tupG (lsc (rd 13) (lsc (rd 14) ls0)))))))) (ret (toS (kd (.bl false)))) b0))))))))))))))
    (ret (toS (andV (frz (op2 (eqBF eqcs 6) (ex (frz (callf 1 m_question_row (arc (ex (frz (mkf 0 4 m_Question_init (kan 3 ar0)))) ar0)))) (ex (kd (.str "any"))))) (andV (frz (op2 (eqBF eqcs 6) (ex (frz (callf 1 m_read_question (arc (ex (kd (.str "any"))) ar0)))) (ex (frz (mkf 0 4 m_Question_init (kan 3 ar0)))))) (frz (op2 (eqBF eqcs 6) (ex (frz (callf 1 m_read_move (arc (ex (kd (.str "0 0"))) ar0)))) (ex (frz (tupG (lsc (kd (.int 0)) (lsc (kd (.int 0)) ls0))))))))))))
end

def kt (K : PySem.W.Frag) : Kt := ⟨K, [("Question", ["lead", "follows", "holds"])], [("BoardError", []), ("BadCount", ["what", "count"]), ("NoName", ["name"]), ("Twice", ["name"]), ("BadRow", ["row"])]⟩
section
variable {K : PySem.W.Frag} {mg : Str → Option Value} {bp : List Nat} {xa : Option (Addr × Value × Option Addr)}
theorem fo_follows (T : Txt K mg) : FOk ⟨kt K, bp, xa⟩ [(0, 1)] "follows" := by
  intro c j h
  have h := lookup_mem h
  simp only [List.mem_cons, Prod.mk.injEq, List.not_mem_nil, or_false] at h
  rcases h with ⟨rfl, rfl⟩
  · exact ⟨"Question", _, rfl, rfl, by decide, T.cl_Question, T.na_Question_follows⟩
theorem fo_holds (T : Txt K mg) : FOk ⟨kt K, bp, xa⟩ [(0, 2)] "holds" := by
  intro c j h
  have h := lookup_mem h
  simp only [List.mem_cons, Prod.mk.injEq, List.not_mem_nil, or_false] at h
  rcases h with ⟨rfl, rfl⟩
  · exact ⟨"Question", _, rfl, rfl, by decide, T.cl_Question, T.na_Question_holds⟩
theorem fo_lead (T : Txt K mg) : FOk ⟨kt K, bp, xa⟩ [(0, 0)] "lead" := by
  intro c j h
  have h := lookup_mem h
  simp only [List.mem_cons, Prod.mk.injEq, List.not_mem_nil, or_false] at h
  rcases h with ⟨rfl, rfl⟩
  · exact ⟨"Question", _, rfl, rfl, by decide, T.cl_Question, T.na_Question_lead⟩
theorem fs_Question_lead (T : Txt K mg) : FOk ⟨kt K, bp, xa⟩ [(0, 0)] "lead" := by
  intro c j h
  have h := lookup_mem h
  simp only [List.mem_cons, Prod.mk.injEq, List.not_mem_nil, or_false] at h
  rcases h with ⟨rfl, rfl⟩
  · exact ⟨"Question", _, rfl, rfl, by decide, T.cl_Question, T.na_Question_lead⟩
theorem fs_Question_follows (T : Txt K mg) : FOk ⟨kt K, bp, xa⟩ [(0, 1)] "follows" := by
  intro c j h
  have h := lookup_mem h
  simp only [List.mem_cons, Prod.mk.injEq, List.not_mem_nil, or_false] at h
  rcases h with ⟨rfl, rfl⟩
  · exact ⟨"Question", _, rfl, rfl, by decide, T.cl_Question, T.na_Question_follows⟩
theorem fs_Question_holds (T : Txt K mg) : FOk ⟨kt K, bp, xa⟩ [(0, 2)] "holds" := by
  intro c j h
  have h := lookup_mem h
  simp only [List.mem_cons, Prod.mk.injEq, List.not_mem_nil, or_false] at h
  rcases h with ⟨rfl, rfl⟩
  · exact ⟨"Question", _, rfl, rfl, by decide, T.cl_Question, T.na_Question_holds⟩
theorem fxo_count (T : Txt K mg) : ∀ c j, List.lookup c ([(1, 1)] : List (Nat × Nat)) = some j → ∃ nm fs, (Zt.K (⟨kt K, bp, xa⟩ : Zt)).et[c]? = some (nm, fs) ∧ fs[j]? = some "count" := by
  intro c j h
  have h := lookup_mem h
  simp only [List.mem_cons, Prod.mk.injEq, List.not_mem_nil, or_false] at h
  rcases h with ⟨rfl, rfl⟩
  · exact ⟨"BadCount", _, rfl, rfl⟩
theorem fxo_name (T : Txt K mg) : ∀ c j, List.lookup c ([(2, 0), (3, 0)] : List (Nat × Nat)) = some j → ∃ nm fs, (Zt.K (⟨kt K, bp, xa⟩ : Zt)).et[c]? = some (nm, fs) ∧ fs[j]? = some "name" := by
  intro c j h
  have h := lookup_mem h
  simp only [List.mem_cons, Prod.mk.injEq, List.not_mem_nil, or_false] at h
  rcases h with ⟨rfl, rfl⟩ | ⟨rfl, rfl⟩
  · exact ⟨"NoName", _, rfl, rfl⟩
  · exact ⟨"Twice", _, rfl, rfl⟩
theorem fxo_row (T : Txt K mg) : ∀ c j, List.lookup c ([(4, 0)] : List (Nat × Nat)) = some j → ∃ nm fs, (Zt.K (⟨kt K, bp, xa⟩ : Zt)).et[c]? = some (nm, fs) ∧ fs[j]? = some "row" := by
  intro c j h
  have h := lookup_mem h
  simp only [List.mem_cons, Prod.mk.injEq, List.not_mem_nil, or_false] at h
  rcases h with ⟨rfl, rfl⟩
  · exact ⟨"BadRow", _, rfl, rfl⟩
theorem fxo_what (T : Txt K mg) : ∀ c j, List.lookup c ([(1, 0)] : List (Nat × Nat)) = some j → ∃ nm fs, (Zt.K (⟨kt K, bp, xa⟩ : Zt)).et[c]? = some (nm, fs) ∧ fs[j]? = some "what" := by
  intro c j h
  have h := lookup_mem h
  simp only [List.mem_cons, Prod.mk.injEq, List.not_mem_nil, or_false] at h
  rcases h with ⟨rfl, rfl⟩
  · exact ⟨"BadCount", _, rfl, rfl⟩
theorem Txt.XO (T : Txt K mg) : XOk ⟨kt K, bp, xa⟩ := fun c nm fs h =>
  match c, h with
  | 0, h => by cases h; exact ⟨T.x_BoardError, by decide, fun f hf => by simp at hf⟩
  | 1, h => by cases h; exact ⟨T.x_BadCount, by decide, fun f hf => by simp only [List.mem_cons, List.not_mem_nil, or_false] at hf; rcases hf with rfl | rfl; exact T.na_BadCount_what; exact T.na_BadCount_count⟩
  | 2, h => by cases h; exact ⟨T.x_NoName, by decide, fun f hf => by simp only [List.mem_cons, List.not_mem_nil, or_false] at hf; rcases hf with rfl; exact T.na_NoName_name⟩
  | 3, h => by cases h; exact ⟨T.x_Twice, by decide, fun f hf => by simp only [List.mem_cons, List.not_mem_nil, or_false] at hf; rcases hf with rfl; exact T.na_Twice_name⟩
  | 4, h => by cases h; exact ⟨T.x_BadRow, by decide, fun f hf => by simp only [List.mem_cons, List.not_mem_nil, or_false] at hf; rcases hf with rfl; exact T.na_BadRow_row⟩
  | n + 5, h => by simp [kt] at h
theorem Txt.k_Question (T : Txt K mg) : KOk ⟨kt K, bp, xa⟩ (.ref (He.ga K "Question")) q_Question := fun c nm fs h =>
  match c, h with
  | 0, h => by cases h; exact ⟨T.isc_Question, T.ki_Question_Question⟩
  | n + 1, h => by simp [kt] at h
end

section
variable {P : Program} {w : World} {K : PySem.W.Frag} {mg : Str → Option Value} {base : Heap}
theorem x_BadCount (T : Txt K mg) : Exk P w K mg base 1 "BadCount" (He.ga K "BadCount") (flN ["what", "count"]) := by
  obtain ⟨fd, F⟩ := T.d_BadCount_init
  exact ⟨_, fd, _, T.x_BadCount, T.xi_BadCount, T.xt_BadCount, F.ok sc_BadCount_init (fun vs H Q E h => flN_len h) (fun cdv A outer s H vs Q E hr h => ⟨_, PSs.nox (pss_cons (ps_ost (pv 0) (pv 1)) (pss_one (ps_ost (pv 0) (pv 2)))), xr2 T.x_BadCount.o T.na_BadCount_what T.na_BadCount_count vs H Q E h⟩), T.g_BadCount, F.bindsN fun _ _ _ _ _ _ us hl => match us, hl with | [_, _, _], _ => rfl⟩
theorem x_NoName (T : Txt K mg) : Exk P w K mg base 1 "NoName" (He.ga K "NoName") (flN ["name"]) := by
  obtain ⟨fd, F⟩ := T.d_NoName_init
  exact ⟨_, fd, _, T.x_NoName, T.xi_NoName, T.xt_NoName, F.ok sc_NoName_init (fun vs H Q E h => flN_len h) (fun cdv A outer s H vs Q E hr h => ⟨_, PSs.nox (pss_one (ps_ost (pv 0) (pv 1))), xr1 T.x_NoName.o T.na_NoName_name vs H Q E h⟩), T.g_NoName, F.bindsN fun _ _ _ _ _ _ us hl => match us, hl with | [_, _], _ => rfl⟩
theorem x_Twice (T : Txt K mg) : Exk P w K mg base 1 "Twice" (He.ga K "Twice") (flN ["name"]) := by
  obtain ⟨fd, F⟩ := T.d_Twice_init
  exact ⟨_, fd, _, T.x_Twice, T.xi_Twice, T.xt_Twice, F.ok sc_Twice_init (fun vs H Q E h => flN_len h) (fun cdv A outer s H vs Q E hr h => ⟨_, PSs.nox (pss_one (ps_ost (pv 0) (pv 1))), xr1 T.x_Twice.o T.na_Twice_name vs H Q E h⟩), T.g_Twice, F.bindsN fun _ _ _ _ _ _ us hl => match us, hl with | [_, _], _ => rfl⟩
theorem x_BadRow (T : Txt K mg) : Exk P w K mg base 1 "BadRow" (He.ga K "BadRow") (flN ["row"]) := by
  obtain ⟨fd, F⟩ := T.d_BadRow_init
  exact ⟨_, fd, _, T.x_BadRow, T.xi_BadRow, T.xt_BadRow, F.ok sc_BadRow_init (fun vs H Q E h => flN_len h) (fun cdv A outer s H vs Q E hr h => ⟨_, PSs.nox (pss_one (ps_ost (pv 0) (pv 1))), xr1 T.x_BadRow.o T.na_BadRow_row vs H Q E h⟩), T.g_BadRow, F.bindsN fun _ _ _ _ _ _ us hl => match us, hl with | [_, _], _ => rfl⟩
theorem e_Question (T : Txt K mg) (n : Nat) (IH : EqAllB P w K mg base (kt K) eqcs n) : OwnE P w K mg base (L2.CX P w) (3 * n + 3) (He.ga K "Question") (spD (kt K) 2 (m_Question_eq n)) := by
  obtain ⟨fd, F⟩ := T.d_Question_eq
  exact ⟨_, fd, _, F.ok (k := 3 * n + 2) sc_Question_eq (fun vs H Q E h => h.1) (fun cdv A outer s H vs Q E hr h => ⟨_, DB.pss (W := fun cls dd _ H' => E cls dd H') (Z := ⟨kt K, [0, 1], none⟩) (d_b1 (d_ret (DE.df (d_and (DF.frz (d_isi (T.k_Question) (by rfl) T.n_isinstance (by decide +kernel) (pa_cons (DO.pe (d_pk (pv 1))) (pa_cons (C8.pe_gc (v := .ref (He.ga K "Question")) rfl ⟨_, T.g_Question, rfl⟩) pa_nil)))) (d_and (DF.frz (d_cmp (oEqB IH hr (by first | decide | omega)) ok_eqB (d_ex (DF.frz (d_fld (d_pk (pv 0)) (fo_lead T)))) (d_ex (DF.frz (d_fld (d_pk (pv 1)) (fo_lead T)))) (nomark _))) (d_and (DF.frz (d_cmp (oEqB IH hr (by first | decide | omega)) ok_eqB (d_ex (DF.frz (d_fld (d_pk (pv 0)) (fo_follows T)))) (d_ex (DF.frz (d_fld (d_pk (pv 1)) (fo_follows T)))) (nomark _))) (d_one (DF.frz (d_cmp (oEqB IH hr (by first | decide | omega)) ok_eqB (d_ex (DF.frz (d_fld (d_pk (pv 0)) (fo_holds T)))) (d_ex (DF.frz (d_fld (d_pk (pv 1)) (fo_holds T)))) (nomark _)))))))))), fn_body (K := kt K) (N := ["self", "other"]) (n := 2) (by decide) h⟩), T.qe_Question, T.qf_Question, F.bindsN fun _ _ _ _ _ _ us hl => match us, hl with | [_, _], _ => rfl, T.qn_Question, T.qm_Question, T.qs_Question⟩
theorem aparts (T : Txt K mg) : Aparts (kt K) eqcs := by
  intro c c' k k' nm nm' fs fs' hc h2 ne ha hb
  have hc := lookup_mem hc
  simp only [eqcs, List.mem_cons, Prod.mk.injEq, List.not_mem_nil, or_false] at hc
  rcases hc with ⟨rfl, rfl⟩
  · cases ha; exact (T.k_Question (bp := []) (xa := none) c' nm' fs' hb).2.trans (by simp [q_Question, Ne.symm ne])
theorem eq_all (T : Txt K mg) : ∀ n : Nat, EqAllB P w K mg base (kt K) eqcs n := by
  refine eqAllB (me := m_eqs) rfl (aparts T) ?_ ?_
  · intro c k hc n IH
    have hc := lookup_mem hc
    simp only [eqcs, List.mem_cons, Prod.mk.injEq, List.not_mem_nil, or_false] at hc
    rcases hc with ⟨rfl, rfl⟩
    · exact ⟨"Question", _, rfl, rfl, e_Question T n IH⟩
  · intro c xs c' ys n hc hd hq hh
    have hc := lookup_mem hc
    simp only [eqcs, List.mem_cons, Prod.mk.injEq, List.not_mem_nil, or_false] at hc
    rcases hc with ⟨rfl, l1⟩
    · by_cases z : 0 = c'
      · subst z
        have q := hq rfl
        have l2 : ys.length = 3 := (Option.some.inj ((show eqcs.lookup 0 = some 3 from rfl).symm.trans hd)).symm
        match xs, ys, l1, l2, q, hh with
        | [x0, x1, x2], [y0, y1, y2], _, _, q, hh =>
          simp only [cmpqs, Bool.and_eq_true] at q
          simp only [hgts] at hh
          have t := told_Question n x0 x1 x2 y0 y1 y2 _ _ _ (eqBF_is (by simp [q]) (by omega)) (eqBF_is (by simp [q]) (by omega)) (eqBF_is (by simp [q]) (by omega))
          simpa [eqDs, m_eqs] using t
      · match xs, l1 with
        | [x0, x1, x2], _ =>
          have t := far_Question n x0 x1 x2 c' ys z
          simpa [z, m_eqs] using t
theorem c_is_name (T : Txt K mg) : Cal P w K mg base (L2.CX P w) 1 "is_name" (spD (kt K) 1 m_is_name) := by
  obtain ⟨fd, F⟩ := T.d_is_name
  exact ⟨_, fd, _, F.ok (k := 0) sc_is_name (fun vs H Q E h => h.1) (fun cdv A outer s H vs Q E hr h => ⟨_, DB.pss (W := fun cls dd _ H' => E cls dd H') (Z := ⟨kt K, [0], none⟩) (d_bc (d_if (DW.t (w_or (t_not (t_chn op_le op_le ok_cmp ok_cmp (d_ex (d_kd pe_int fun _ => DA.int)) (d_ex (DF.frz (d_cb (oLen K) ok_len (by rfl) T.n_len PySem.boot_len (d_arc (d_pk (pv 0)) d_ar0)))) (d_ex (d_kd (C8.pe_gc rfl T.c_LONGEST_NAME) fun _ => DA.int)))) (w_or1 (t_cmp (oNotIn K) ok_nin (d_ex (DF.frz (d_ix (d_pk (pv 0)) (d_ex (d_kd pe_int fun _ => DA.int)) (fun _ _ => rfl) (fun _ _ => rfl) (Room.u1 hr)))) (d_ex (d_kd (C8.pe_gc rfl T.c_LETTERS) fun _ => DA.str)) (by rfl))))) (d_b1 (d_ret (DE.df (d_kd pe_bl fun _ => DA.bl)))) d_b0)
    (d_b1 (d_ret (d_cb (oAll K rfl) ok_all (by rfl) T.n_all (by decide +kernel) (d_arc (d_ex (DF.frz (d_lc (own := [("sign", 1)]) rfl sc_is_name.nd (i_it (d_rd (pv 0))) (blkOk_by (N := ["text", "sign"]) (sc := defScope s_is_name) (by decide +kernel)) (fun _ _ _ _ _ => (pg_name (i := 1) sc_is_name.nd rfl (.inl rfl))) (g_nm (show 1 ∉ ([0] : List Nat) by decide)) (show ∀ i ∈ Tg.sl (.nm 1), i ∈ ([1] : List Nat) by decide) (show ∀ i ∈ ([1] : List Nat), i ∉ ([0] : List Nat) by decide) (fun _ _ _ _ _ => (DF.frz (d_cmp (oIn K) ok_in (d_pk (pv 1)) (d_ex (d_kd (C8.pe_gc rfl T.c_LETTERS_AND_FIGURES) fun _ => DA.str)) (by rfl))))))) d_ar0))))), fn_body (K := kt K) (N := ["text", "sign"]) (n := 1) (by decide) h⟩), T.g_is_name, F.kp, F.bindsN fun _ _ _ _ _ _ us hl => match us, hl with | [_], _ => rfl⟩
theorem c_need_names (T : Txt K mg) : Cal P w K mg base (L2.CX P w) 3 "need_names" (spD (kt K) 1 m_need_names) := by
  obtain ⟨fd, F⟩ := T.d_need_names
  exact ⟨_, fd, _, F.ok (k := 2) sc_need_names (fun vs H Q E h => h.1) (fun cdv A outer s H vs Q E hr h => ⟨_, DB.pss (W := fun cls dd _ H' => E cls dd H') (Z := ⟨kt K, [0], none⟩) (d_b1 (d_for (passes_of rfl) rfl (i_it (d_rd (pv 0))) (pg_name (i := 1) sc_need_names.nd rfl (.inl rfl)) (g_nm (show 1 ∉ ([0] : List Nat) by decide)) (d_b1 (d_if (t_not (t_tru (d_ex (DF.frz (d_call (c_is_name T) hr (by first | decide | omega) (atW (takes_of (E := E) rfl rfl rfl rfl)) rfl (d_arc (d_pk (pv 1)) d_ar0)))))) (d_b1 (d_rse rfl (List.cons_ne_nil _ _) flN_ok rfl (takes_of (E := E) rfl rfl rfl rfl) (x_NoName T) hr (by first | decide | omega) rfl (d_lsc (d_rd (pv 1)) d_ls0))) d_b0)))), fn_body (K := kt K) (N := ["texts", "text"]) (n := 1) (by decide) h⟩), T.g_need_names, F.kp, F.bindsN fun _ _ _ _ _ _ us hl => match us, hl with | [_], _ => rfl⟩
theorem c_need_once (T : Txt K mg) : Cal P w K mg base (L2.CX P w) 3 "need_once" (spD (kt K) 1 m_need_once) := by
  obtain ⟨fd, F⟩ := T.d_need_once
  exact ⟨_, fd, _, F.ok (k := 2) sc_need_once (fun vs H Q E h => h.1) (fun cdv A outer s H vs Q E hr h => ⟨_, DB.pss (W := fun cls dd _ H' => E cls dd H') (Z := ⟨kt K, [0], none⟩) (d_b1 (d_for (passes_of rfl) rfl (i_enum (by rfl) T.n_enumerate (d_rd (pv 0))) (oTup K (n := 2) rfl (pgs_cons (pg_name (i := 1) sc_need_once.nd rfl (.inl rfl)) (pgs_cons (pg_name (i := 2) sc_need_once.nd rfl (.inl rfl)) pgs_nil))) (g_tp (n := 2) (gs_cons (g_nm (show 1 ∉ ([0] : List Nat) by decide)) (gs_cons (g_nm (show 2 ∉ ([0] : List Nat) by decide)) gs_nil))) (d_b1 (d_if (t_cmp (oIn K) ok_in (d_pk (pv 2)) (d_ex (DF.frz (d_slA (d_pk (pv 0)) d_no (d_part (d_rd (pv 1)))))) (by rfl)) (d_b1 (d_rse rfl (List.cons_ne_nil _ _) flN_ok rfl (takes_of (E := E) rfl rfl rfl rfl) (x_Twice T) hr (by first | decide | omega) rfl (d_lsc (d_rd (pv 2)) d_ls0))) d_b0)))), fn_body (K := kt K) (N := ["names", "place", "name"]) (n := 1) (by decide) h⟩), T.g_need_once, F.kp, F.bindsN fun _ _ _ _ _ _ us hl => match us, hl with | [_], _ => rfl⟩
theorem c_need_count (T : Txt K mg) : Cal P w K mg base (L2.CX P w) 3 "need_count" (spD (kt K) 4 m_need_count) := by
  obtain ⟨fd, F⟩ := T.d_need_count
  exact ⟨_, fd, _, F.ok (k := 2) sc_need_count (fun vs H Q E h => h.1) (fun cdv A outer s H vs Q E hr h => ⟨_, DB.pss (W := fun cls dd _ H' => E cls dd H') (Z := ⟨kt K, [0, 1, 2, 3], none⟩) (d_b1 (d_if (t_not (t_chn op_le op_le ok_cmp ok_cmp (d_pk (pv 2)) (d_pk (pv 1)) (d_pk (pv 3)))) (d_b1 (d_rse rfl (List.cons_ne_nil _ _) flN_ok rfl (takes_of (E := E) rfl rfl rfl rfl) (x_BadCount T) hr (by first | decide | omega) rfl (d_lsc (d_rd (pv 0)) (d_lsc (d_rd (pv 1)) d_ls0)))) d_b0)), fn_body (K := kt K) (N := ["what", "count", "low", "high"]) (n := 4) (by decide) h⟩), T.g_need_count, F.kp, F.bindsN fun _ _ _ _ _ _ us hl => match us, hl with | [_, _, _, _], _ => rfl⟩
theorem mk_Question_init (T : Txt K mg) : Mak P w K mg base (L2.CX P w) 4 "Question" (He.ga K "Question") (spD (kt K) 4 m_Question_init) := by
  obtain ⟨fd, F⟩ := T.d_Question_init
  exact ⟨_, fd, _, T.mk_Question, F.ok (k := 3) sc_Question_init (fun vs H Q E h => h.1) (fun cdv A outer s H vs Q E hr h => ⟨_, DB.pss (W := fun cls dd _ H' => E cls dd H') (Z := ⟨kt K, [0, 1, 2, 3], none⟩) (d_bc (d_set (i := 4) (show 4 ∉ ([0, 1, 2, 3] : List Nat) by decide) (DE.df (d_ifE (t_cmp op_isN1 ok_isN (d_pk (pv 2)) (d_ex (d_kd pe_non fun _ => DA.non)) (nomark _)) (DF.frz (d_lst d_ls0)) (d_rd (pv 2)))) sc_Question_init.nd rfl (.inl rfl))
    (d_bc (d_set (i := 5) (show 5 ∉ ([0, 1, 2, 3] : List Nat) by decide) (DE.df (d_ifE (t_cmp op_isN1 ok_isN (d_pk (pv 3)) (d_ex (d_kd pe_non fun _ => DA.non)) (nomark _)) (DF.frz (d_lst d_ls0)) (d_rd (pv 3)))) sc_Question_init.nd rfl (.inl rfl))
    (d_bc (d_drp (d_call (c_need_count T) hr (by first | decide | omega) (atW (takes_of (E := E) rfl rfl rfl rfl)) rfl (d_arc (d_ex (d_kd pe_str fun _ => DA.str)) (d_arc (d_ex (DF.frz (d_cb (oLen K) ok_len (by rfl) T.n_len PySem.boot_len (d_arc (d_pk (pv 4)) d_ar0)))) (d_arc (d_ex (d_kd pe_int fun _ => DA.int)) (d_arc (d_ex (d_kd (C8.pe_gc rfl T.c_MOST_FOLLOWS) fun _ => DA.int)) d_ar0))))))
    (d_bc (d_drp (d_call (c_need_names T) hr (by first | decide | omega) (atW (takes_of (E := E) rfl rfl rfl rfl)) rfl (d_arc (d_ex (d_ifE (t_cmp op_isN1 ok_isN (d_pk (pv 1)) (d_ex (d_kd pe_non fun _ => DA.non)) (nomark _)) (DF.frz (d_lst d_ls0)) (DF.frz (d_lst (d_lsc (d_rd (pv 1)) d_ls0))))) d_ar0)))
    (d_bc (d_drp (d_call (c_need_names T) hr (by first | decide | omega) (atW (takes_of (E := E) rfl rfl rfl rfl)) rfl (d_arc (d_pk (pv 4)) d_ar0)))
    (d_bc (d_drp (d_call (c_need_names T) hr (by first | decide | omega) (atW (takes_of (E := E) rfl rfl rfl rfl)) rfl (d_arc (d_ex (DF.frz (d_lc2 (own := [("pair", 6), ("name", 7)]) (vs1 := [7]) (g_nm (show 6 ∉ ([0, 1, 2, 3] : List Nat) by decide)) (show ∀ i ∈ Tg.sl (.nm 6), i ∈ ([6, 7] : List Nat) by decide) (show ∀ i ∈ ([6, 7] : List Nat), i ∉ ([0, 1, 2, 3] : List Nat) by decide) (g_nm (show 7 ∉ ([0, 1, 2, 3] : List Nat) by decide)) (show ∀ i ∈ Tg.sl (.nm 7), i ∈ ([7] : List Nat) by decide) (show ∀ i ∈ ([7] : List Nat), i ∈ ([6, 7] : List Nat) by decide) (pe_lc2 (own := [("pair", 6), ("name", 7)]) (vs1 := [7]) rfl sc_Question_init.nd (DI.pi (i_it (d_rd (pv 5)))) (blkOk_by (N := ["self", "lead", "follows", "holds", "asked", "told", "pair", "name", "cell", "_", "value"]) (sc := defScope s_Question_init) (by decide +kernel)) (by decide) (fun _ _ _ _ _ => (pg_name (i := 6) sc_Question_init.nd rfl (.inl rfl))) (fun _ _ _ _ _ => pts_nil) (fun _ _ _ _ _ => DI.pi (W := W0) (Z := ⟨kt K, [0, 1, 2, 3], none⟩) (i_it (d_rd (pv 6)))) (fun _ _ _ _ _ => (pg_name (i := 7) sc_Question_init.nd rfl (.inl rfl))) (fun _ _ _ _ _ => pts_nil) (fun _ _ _ _ _ => DE.pe (W := W0) (Z := ⟨kt K, [0, 1, 2, 3], none⟩) (d_rd (pv 7))))))) d_ar0)))
    (d_bc (d_drp (d_call (c_need_once T) hr (by first | decide | omega) (atW (takes_of (E := E) rfl rfl rfl rfl)) rfl (d_arc (d_ex (DF.frz (d_lc (own := [("cell", 8), ("_", 9)]) rfl sc_Question_init.nd (i_it (d_rd (pv 5))) (blkOk_by (N := ["self", "lead", "follows", "holds", "asked", "told", "pair", "name", "cell", "_", "value"]) (sc := defScope s_Question_init) (by decide +kernel)) (fun _ _ _ _ _ => (oTup K (n := 2) rfl (pgs_cons (pg_name (i := 8) sc_Question_init.nd rfl (.inl rfl)) (pgs_cons (pg_name (i := 9) sc_Question_init.nd rfl (.inl rfl)) pgs_nil)))) (g_tp (n := 2) (gs_cons (g_nm (show 8 ∉ ([0, 1, 2, 3] : List Nat) by decide)) (gs_cons (g_nm (show 9 ∉ ([0, 1, 2, 3] : List Nat) by decide)) gs_nil))) (show ∀ i ∈ Tg.sl (.tp [(.nm 8), (.nm 9)]), i ∈ ([8, 9] : List Nat) by decide) (show ∀ i ∈ ([8, 9] : List Nat), i ∉ ([0, 1, 2, 3] : List Nat) by decide) (fun _ _ _ _ _ => (d_rd (pv 8)))))) d_ar0)))
    (d_bc (d_stf (ps_fld (pv 0) (DE.pe (d_rd (pv 1))) rfl) (fs_Question_lead T))
    (d_bc (d_stf (ps_fld (pv 0) (DE.pe (DF.frz (d_cty (oTuple K) ok_tuple (by rfl) T.n_tuple (by decide +kernel) (d_arc (d_pk (pv 4)) d_ar0)))) rfl) (fs_Question_follows T))
    (d_b1 (d_stf (ps_fld (pv 0) (DE.pe (DF.frz (d_cty (oTuple K) ok_tuple (by rfl) T.n_tuple (by decide +kernel) (d_arc (d_ex (DF.frz (d_lc (own := [("cell", 8), ("value", 10)]) rfl sc_Question_init.nd (i_it (d_rd (pv 5))) (blkOk_by (N := ["self", "lead", "follows", "holds", "asked", "told", "pair", "name", "cell", "_", "value"]) (sc := defScope s_Question_init) (by decide +kernel)) (fun _ _ _ _ _ => (oTup K (n := 2) rfl (pgs_cons (pg_name (i := 8) sc_Question_init.nd rfl (.inl rfl)) (pgs_cons (pg_name (i := 10) sc_Question_init.nd rfl (.inl rfl)) pgs_nil)))) (g_tp (n := 2) (gs_cons (g_nm (show 8 ∉ ([0, 1, 2, 3] : List Nat) by decide)) (gs_cons (g_nm (show 10 ∉ ([0, 1, 2, 3] : List Nat) by decide)) gs_nil))) (show ∀ i ∈ Tg.sl (.tp [(.nm 8), (.nm 10)]), i ∈ ([8, 10] : List Nat) by decide) (show ∀ i ∈ ([8, 10] : List Nat), i ∉ ([0, 1, 2, 3] : List Nat) by decide) (fun _ _ _ _ _ => (DF.frz (d_tup (d_lsc (d_rd (pv 8)) (d_lsc (d_rd (pv 10)) d_ls0)))))))) d_ar0)))) rfl) (fs_Question_holds T)))))))))))), fn_body (K := kt K) (N := ["self", "lead", "follows", "holds", "asked", "told", "pair", "name", "cell", "_", "value"]) (n := 4) (by decide) h⟩), T.g_Question, (binds_full F (List.cons_ne_nil _ _) fun _ _ _ _ _ _ _ us its l1 l2 => match us, its, l1, l2 with | [_, _, _, _], [_, _, _], _, _ => ⟨_, rfl, rfl⟩)⟩
theorem cd_Question_init_0 (T : Txt K mg) : MakD P w K mg base (L2.CX P w) 4 "Question" (He.ga K "Question") (List.replicate 3 V.non) (spD (kt K) 4 m_Question_init) := by
  obtain ⟨fd, F⟩ := T.d_Question_init
  obtain ⟨ds, hv, b⟩ := FunD.binds1 (ps := ["self", "lead", "follows", "holds"]) F 1 0 (List.cons_ne_nil _ _) rfl fun _ _ _ _ _ _ _ us its l1 l2 => match us, its, l1, l2 with | [_], [_, _, _], _, _ => ⟨_, rfl, rfl⟩
  exact ⟨_, fd, _, ds, T.mk_Question, F.ok (k := 3) sc_Question_init (fun vs H Q E h => h.1) (fun cdv A outer s H vs Q E hr h => ⟨_, DB.pss (W := fun cls dd _ H' => E cls dd H') (Z := ⟨kt K, [0, 1, 2, 3], none⟩) (d_bc (d_set (i := 4) (show 4 ∉ ([0, 1, 2, 3] : List Nat) by decide) (DE.df (d_ifE (t_cmp op_isN1 ok_isN (d_pk (pv 2)) (d_ex (d_kd pe_non fun _ => DA.non)) (nomark _)) (DF.frz (d_lst d_ls0)) (d_rd (pv 2)))) sc_Question_init.nd rfl (.inl rfl))
    (d_bc (d_set (i := 5) (show 5 ∉ ([0, 1, 2, 3] : List Nat) by decide) (DE.df (d_ifE (t_cmp op_isN1 ok_isN (d_pk (pv 3)) (d_ex (d_kd pe_non fun _ => DA.non)) (nomark _)) (DF.frz (d_lst d_ls0)) (d_rd (pv 3)))) sc_Question_init.nd rfl (.inl rfl))
    (d_bc (d_drp (d_call (c_need_count T) hr (by first | decide | omega) (atW (takes_of (E := E) rfl rfl rfl rfl)) rfl (d_arc (d_ex (d_kd pe_str fun _ => DA.str)) (d_arc (d_ex (DF.frz (d_cb (oLen K) ok_len (by rfl) T.n_len PySem.boot_len (d_arc (d_pk (pv 4)) d_ar0)))) (d_arc (d_ex (d_kd pe_int fun _ => DA.int)) (d_arc (d_ex (d_kd (C8.pe_gc rfl T.c_MOST_FOLLOWS) fun _ => DA.int)) d_ar0))))))
    (d_bc (d_drp (d_call (c_need_names T) hr (by first | decide | omega) (atW (takes_of (E := E) rfl rfl rfl rfl)) rfl (d_arc (d_ex (d_ifE (t_cmp op_isN1 ok_isN (d_pk (pv 1)) (d_ex (d_kd pe_non fun _ => DA.non)) (nomark _)) (DF.frz (d_lst d_ls0)) (DF.frz (d_lst (d_lsc (d_rd (pv 1)) d_ls0))))) d_ar0)))
    (d_bc (d_drp (d_call (c_need_names T) hr (by first | decide | omega) (atW (takes_of (E := E) rfl rfl rfl rfl)) rfl (d_arc (d_pk (pv 4)) d_ar0)))
    (d_bc (d_drp (d_call (c_need_names T) hr (by first | decide | omega) (atW (takes_of (E := E) rfl rfl rfl rfl)) rfl (d_arc (d_ex (DF.frz (d_lc2 (own := [("pair", 6), ("name", 7)]) (vs1 := [7]) (g_nm (show 6 ∉ ([0, 1, 2, 3] : List Nat) by decide)) (show ∀ i ∈ Tg.sl (.nm 6), i ∈ ([6, 7] : List Nat) by decide) (show ∀ i ∈ ([6, 7] : List Nat), i ∉ ([0, 1, 2, 3] : List Nat) by decide) (g_nm (show 7 ∉ ([0, 1, 2, 3] : List Nat) by decide)) (show ∀ i ∈ Tg.sl (.nm 7), i ∈ ([7] : List Nat) by decide) (show ∀ i ∈ ([7] : List Nat), i ∈ ([6, 7] : List Nat) by decide) (pe_lc2 (own := [("pair", 6), ("name", 7)]) (vs1 := [7]) rfl sc_Question_init.nd (DI.pi (i_it (d_rd (pv 5)))) (blkOk_by (N := ["self", "lead", "follows", "holds", "asked", "told", "pair", "name", "cell", "_", "value"]) (sc := defScope s_Question_init) (by decide +kernel)) (by decide) (fun _ _ _ _ _ => (pg_name (i := 6) sc_Question_init.nd rfl (.inl rfl))) (fun _ _ _ _ _ => pts_nil) (fun _ _ _ _ _ => DI.pi (W := W0) (Z := ⟨kt K, [0, 1, 2, 3], none⟩) (i_it (d_rd (pv 6)))) (fun _ _ _ _ _ => (pg_name (i := 7) sc_Question_init.nd rfl (.inl rfl))) (fun _ _ _ _ _ => pts_nil) (fun _ _ _ _ _ => DE.pe (W := W0) (Z := ⟨kt K, [0, 1, 2, 3], none⟩) (d_rd (pv 7))))))) d_ar0)))
    (d_bc (d_drp (d_call (c_need_once T) hr (by first | decide | omega) (atW (takes_of (E := E) rfl rfl rfl rfl)) rfl (d_arc (d_ex (DF.frz (d_lc (own := [("cell", 8), ("_", 9)]) rfl sc_Question_init.nd (i_it (d_rd (pv 5))) (blkOk_by (N := ["self", "lead", "follows", "holds", "asked", "told", "pair", "name", "cell", "_", "value"]) (sc := defScope s_Question_init) (by decide +kernel)) (fun _ _ _ _ _ => (oTup K (n := 2) rfl (pgs_cons (pg_name (i := 8) sc_Question_init.nd rfl (.inl rfl)) (pgs_cons (pg_name (i := 9) sc_Question_init.nd rfl (.inl rfl)) pgs_nil)))) (g_tp (n := 2) (gs_cons (g_nm (show 8 ∉ ([0, 1, 2, 3] : List Nat) by decide)) (gs_cons (g_nm (show 9 ∉ ([0, 1, 2, 3] : List Nat) by decide)) gs_nil))) (show ∀ i ∈ Tg.sl (.tp [(.nm 8), (.nm 9)]), i ∈ ([8, 9] : List Nat) by decide) (show ∀ i ∈ ([8, 9] : List Nat), i ∉ ([0, 1, 2, 3] : List Nat) by decide) (fun _ _ _ _ _ => (d_rd (pv 8)))))) d_ar0)))
    (d_bc (d_stf (ps_fld (pv 0) (DE.pe (d_rd (pv 1))) rfl) (fs_Question_lead T))
    (d_bc (d_stf (ps_fld (pv 0) (DE.pe (DF.frz (d_cty (oTuple K) ok_tuple (by rfl) T.n_tuple (by decide +kernel) (d_arc (d_pk (pv 4)) d_ar0)))) rfl) (fs_Question_follows T))
    (d_b1 (d_stf (ps_fld (pv 0) (DE.pe (DF.frz (d_cty (oTuple K) ok_tuple (by rfl) T.n_tuple (by decide +kernel) (d_arc (d_ex (DF.frz (d_lc (own := [("cell", 8), ("value", 10)]) rfl sc_Question_init.nd (i_it (d_rd (pv 5))) (blkOk_by (N := ["self", "lead", "follows", "holds", "asked", "told", "pair", "name", "cell", "_", "value"]) (sc := defScope s_Question_init) (by decide +kernel)) (fun _ _ _ _ _ => (oTup K (n := 2) rfl (pgs_cons (pg_name (i := 8) sc_Question_init.nd rfl (.inl rfl)) (pgs_cons (pg_name (i := 10) sc_Question_init.nd rfl (.inl rfl)) pgs_nil)))) (g_tp (n := 2) (gs_cons (g_nm (show 8 ∉ ([0, 1, 2, 3] : List Nat) by decide)) (gs_cons (g_nm (show 10 ∉ ([0, 1, 2, 3] : List Nat) by decide)) gs_nil))) (show ∀ i ∈ Tg.sl (.tp [(.nm 8), (.nm 10)]), i ∈ ([8, 10] : List Nat) by decide) (show ∀ i ∈ ([8, 10] : List Nat), i ∉ ([0, 1, 2, 3] : List Nat) by decide) (fun _ _ _ _ _ => (DF.frz (d_tup (d_lsc (d_rd (pv 8)) (d_lsc (d_rd (pv 10)) d_ls0)))))))) d_ar0)))) rfl) (fs_Question_holds T)))))))))))), fn_body (K := kt K) (N := ["self", "lead", "follows", "holds", "asked", "told", "pair", "name", "cell", "_", "value"]) (n := 4) (by decide) h⟩), T.g_Question, b, hv⟩
theorem c_question_row (T : Txt K mg) : Cal P w K mg base (L2.CX P w) 1 "question_row" (spD (kt K) 1 m_question_row) := by
  obtain ⟨fd, F⟩ := T.d_question_row
  exact ⟨_, fd, _, F.ok (k := 0) sc_question_row (fun vs H Q E h => h.1) (fun cdv A outer s H vs Q E hr h => ⟨_, DB.pss (W := fun cls dd _ H' => E cls dd H') (Z := ⟨kt K, [0], none⟩) (d_bc (d_set (i := 1) (show 1 ∉ ([0] : List Nat) by decide) (d_ifF (t_cmp op_isN1 ok_isN (d_ex (DF.frz (d_fld (d_pk (pv 0)) (fo_lead T)))) (d_ex (d_kd pe_non fun _ => DA.non)) (nomark _)) (d_lst d_ls0) (d_lst (d_lsc (d_kd pe_str fun _ => DA.str) (d_lsc (DF.frz (d_fld (d_pk (pv 0)) (fo_lead T))) d_ls0)))) sc_question_row.nd rfl (.inl rfl))
    (d_bc (d_for (passes_of rfl) rfl (i_it (DF.frz (d_fld (d_pk (pv 0)) (fo_follows T)))) (pg_name (i := 2) sc_question_row.nd rfl (.inl rfl)) (g_nm (show 2 ∉ ([0] : List Nat) by decide)) (d_b1 (d_drp (d_ext1 (pe_bm PySem.F.plainAttrs_list PySem.F.slot_list_extend PySem.F.type_list_extend mt_extend (pv 1) (pa_df (d_lst (d_lsc (d_kd pe_str fun _ => DA.str) (d_lsc (d_rd (pv 2)) d_ls0)))))))))
    (d_bc (d_for (passes_of rfl) rfl (i_it (DF.frz (d_fld (d_pk (pv 0)) (fo_holds T)))) (oTup K (n := 2) rfl (pgs_cons (pg_name (i := 3) sc_question_row.nd rfl (.inl rfl)) (pgs_cons (pg_name (i := 4) sc_question_row.nd rfl (.inl rfl)) pgs_nil))) (g_tp (n := 2) (gs_cons (g_nm (show 3 ∉ ([0] : List Nat) by decide)) (gs_cons (g_nm (show 4 ∉ ([0] : List Nat) by decide)) gs_nil))) (d_b1 (d_drp (d_ext1 (pe_bm PySem.F.plainAttrs_list PySem.F.slot_list_extend PySem.F.type_list_extend mt_extend (pv 1) (pa_df (d_lst (d_lsc (d_kd pe_str fun _ => DA.str) (d_lsc (d_rd (pv 3)) (d_lsc (d_rd (pv 4)) d_ls0))))))))))
    (d_b1 (d_ret (d_ifF (t_tru (d_pk (pv 1))) (DE.df (d_join (pe_bm PySem.F.plainAttrs_str PySem.F.slot_str_join PySem.F.type_str_join (oJoin K) (DE.pe (d_kd pe_str fun _ => DA.str)) (pa_de (d_rd (pv 1)))))) (DE.df (d_kd pe_str fun _ => DA.str)))))))), fn_body (K := kt K) (N := ["question", "parts", "name", "cell", "value"]) (n := 1) (by decide) h⟩), T.g_question_row, F.kp, F.bindsN fun _ _ _ _ _ _ us hl => match us, hl with | [_], _ => rfl⟩
theorem c_groups_of (T : Txt K mg) : Cal P w K mg base (L2.CX P w) 3 "groups_of" (spD (kt K) 4 m_groups_of) := by
  obtain ⟨fd, F⟩ := T.d_groups_of
  exact ⟨_, fd, _, F.ok (k := 2) sc_groups_of (fun vs H Q E h => h.1) (fun cdv A outer s H vs Q E hr h => ⟨_, DB.pss (W := fun cls dd _ H' => E cls dd H') (Z := ⟨kt K, [0, 1, 2], none⟩) (d_bc (d_set (i := 4) (show 4 ∉ ([0, 1, 2] : List Nat) by decide) (d_lst d_ls0) sc_groups_of.nd rfl (.inl rfl))
    (d_bc (d_while 1000000 (passes_of rfl) (DW.t (w_and (t_cmp op_lt ok_cmp (d_pk (pv 3)) (d_ex (DF.frz (d_cb (oLen K) ok_len (by rfl) T.n_len PySem.boot_len (d_arc (d_pk (pv 2)) d_ar0)))) (nomark _)) (w_and1 (t_cmp (oEq K hr.units) ok_eq (d_ex (DF.frz (d_ix (d_pk (pv 2)) (d_pk (pv 3)) (fun _ _ => rfl) (fun _ _ => rfl) (Room.u1 hr)))) (d_pk (pv 0)) (nomark _))))) (d_bc (d_set (i := 5) (show 5 ∉ ([0, 1, 2] : List Nat) by decide) (d_slA (d_pk (pv 2)) (d_part (DF.frz (d_op (oAdd K) ok_add (d_pk (pv 3)) (d_ex (d_kd pe_int fun _ => DA.int))))) (d_part (DF.frz (d_op (oAdd K) ok_add (d_ex (DF.frz (d_op (oAdd K) ok_add (d_pk (pv 3)) (d_ex (d_kd pe_int fun _ => DA.int))))) (d_pk (pv 1)))))) sc_groups_of.nd rfl (.inl rfl))
    (d_bc (d_if (t_cmp op_lt ok_cmp (d_ex (DF.frz (d_cb (oLen K) ok_len (by rfl) T.n_len PySem.boot_len (d_arc (d_pk (pv 5)) d_ar0)))) (d_pk (pv 1)) (nomark _)) (d_b1 (d_rse rfl (List.cons_ne_nil _ _) flN_ok rfl (takes_of (E := E) rfl rfl rfl rfl) (x_BadRow T) hr (by first | decide | omega) rfl (d_lsc (d_kd pe_int fun _ => DA.int) d_ls0))) d_b0)
    (d_bc (d_drp (d_mut1 (pe_bm PySem.F.plainAttrs_list PySem.F.slot_list_append PySem.F.type_list_append mt_append (pv 4) (DL.pa (d_lsc (d_rd (pv 5)) d_ls0))) ok_app))
    (d_b1 (d_aug (i := 3) (show 3 ∉ ([0, 1, 2] : List Nat) by decide) sc_groups_of.nd rfl (.inl rfl) (DF.frz (d_op (oAdd K) ok_add (d_ex (d_kd pe_int fun _ => DA.int)) (d_pk (pv 1)))) ip_add))))))
    (d_b1 (d_ret (d_tup (d_lsc (d_rd (pv 4)) (d_lsc (d_rd (pv 3)) d_ls0))))))), fn_body (K := kt K) (N := ["word", "many", "parts", "at", "found", "group"]) (n := 4) (by decide) h⟩), T.g_groups_of, F.kp, F.bindsN fun _ _ _ _ _ _ us hl => match us, hl with | [_, _, _, _], _ => rfl⟩
theorem c_read_question (T : Txt K mg) : Cal P w K mg base (L2.CX P w) 6 "read_question" (spD (kt K) 1 m_read_question) := by
  obtain ⟨fd, F⟩ := T.d_read_question
  exact ⟨_, fd, _, F.ok (k := 5) sc_read_question (fun vs H Q E h => h.1) (fun cdv A outer s H vs Q E hr h => ⟨_, DB.pss (W := fun cls dd _ H' => E cls dd H') (Z := ⟨kt K, [0], none⟩) (d_bc (d_if (t_cmp (oEq K hr.units) ok_eq (d_pk (pv 0)) (d_ex (d_kd pe_str fun _ => DA.str)) (nomark _)) (d_b1 (d_ret (d_makeD0 rfl (cd_Question_init_0 T) hr (by first | decide | omega) (atW (takes_of (E := E) rfl rfl rfl rfl)) rfl))) d_b0)
    (d_bc (d_set (i := 1) (show 1 ∉ ([0] : List Nat) by decide) (d_split (pe_bm PySem.F.plainAttrs_str PySem.F.slot_str_split PySem.F.type_str_split oSplit (DE.pe (d_rd (pv 0))) (pa_de (d_kd pe_str fun _ => DA.str)))) sc_read_question.nd rfl (.inl rfl))
    (d_bc (d_if (t_cmp (oIn K) ok_in (d_ex (d_kd pe_str fun _ => DA.str)) (d_pk (pv 1)) (by rfl)) (d_b1 (d_rse rfl (List.cons_ne_nil _ _) flN_ok rfl (takes_of (E := E) rfl rfl rfl rfl) (x_BadRow T) hr (by first | decide | omega) rfl (d_lsc (d_kd pe_int fun _ => DA.int) d_ls0))) d_b0)
    (d_bc (d_asg (DF.frz (d_call (c_groups_of T) hr (by first | decide | omega) (atW (takes_of (E := E) rfl rfl rfl rfl)) rfl (d_arc (d_ex (d_kd pe_str fun _ => DA.str)) (d_arc (d_ex (d_kd pe_int fun _ => DA.int)) (d_arc (d_pk (pv 1)) (d_arc (d_ex (d_kd pe_int fun _ => DA.int)) d_ar0)))))) (oTup K (n := 2) rfl (pgs_cons (pg_name (i := 2) sc_read_question.nd rfl (.inl rfl)) (pgs_cons (pg_name (i := 3) sc_read_question.nd rfl (.inl rfl)) pgs_nil))) (g_tp (n := 2) (gs_cons (g_nm (show 2 ∉ ([0] : List Nat) by decide)) (gs_cons (g_nm (show 3 ∉ ([0] : List Nat) by decide)) gs_nil))))
    (d_bc (d_asg (DF.frz (d_call (c_groups_of T) hr (by first | decide | omega) (atW (takes_of (E := E) rfl rfl rfl rfl)) rfl (d_arc (d_ex (d_kd pe_str fun _ => DA.str)) (d_arc (d_ex (d_kd pe_int fun _ => DA.int)) (d_arc (d_pk (pv 1)) (d_arc (d_ex (d_rd (pv 3))) d_ar0)))))) (oTup K (n := 2) rfl (pgs_cons (pg_name (i := 4) sc_read_question.nd rfl (.inl rfl)) (pgs_cons (pg_name (i := 3) sc_read_question.nd rfl (.inl rfl)) pgs_nil))) (g_tp (n := 2) (gs_cons (g_nm (show 4 ∉ ([0] : List Nat) by decide)) (gs_cons (g_nm (show 3 ∉ ([0] : List Nat) by decide)) gs_nil))))
    (d_bc (d_asg (DF.frz (d_call (c_groups_of T) hr (by first | decide | omega) (atW (takes_of (E := E) rfl rfl rfl rfl)) rfl (d_arc (d_ex (d_kd pe_str fun _ => DA.str)) (d_arc (d_ex (d_kd pe_int fun _ => DA.int)) (d_arc (d_pk (pv 1)) (d_arc (d_ex (d_rd (pv 3))) d_ar0)))))) (oTup K (n := 2) rfl (pgs_cons (pg_name (i := 5) sc_read_question.nd rfl (.inl rfl)) (pgs_cons (pg_name (i := 3) sc_read_question.nd rfl (.inl rfl)) pgs_nil))) (g_tp (n := 2) (gs_cons (g_nm (show 5 ∉ ([0] : List Nat) by decide)) (gs_cons (g_nm (show 3 ∉ ([0] : List Nat) by decide)) gs_nil))))
    (d_bc (d_if (DW.t (w_or (t_cmp op_gt ok_cmp (d_ex (DF.frz (d_cb (oLen K) ok_len (by rfl) T.n_len PySem.boot_len (d_arc (d_pk (pv 2)) d_ar0)))) (d_ex (d_kd pe_int fun _ => DA.int)) (nomark _)) (w_or1 (t_cmp op_lt ok_cmp (d_pk (pv 3)) (d_ex (DF.frz (d_cb (oLen K) ok_len (by rfl) T.n_len PySem.boot_len (d_arc (d_pk (pv 1)) d_ar0)))) (nomark _))))) (d_b1 (d_rse rfl (List.cons_ne_nil _ _) flN_ok rfl (takes_of (E := E) rfl rfl rfl rfl) (x_BadRow T) hr (by first | decide | omega) rfl (d_lsc (d_kd pe_int fun _ => DA.int) d_ls0))) d_b0)
    (d_bc (d_set (i := 6) (show 6 ∉ ([0] : List Nat) by decide) (DE.df (d_ifE (t_tru (d_pk (pv 2))) (DF.frz (d_ix (d_ex (DF.frz (d_ix (d_pk (pv 2)) (d_ex (d_kd pe_int fun _ => DA.int)) (fun _ _ => rfl) (fun _ _ => rfl) (Room.u1 hr)))) (d_ex (d_kd pe_int fun _ => DA.int)) (fun _ _ => rfl) (fun _ _ => rfl) (Room.u1 hr))) (d_kd pe_non fun _ => DA.non))) sc_read_question.nd rfl (.inl rfl))
    (d_b1 (d_ret (d_make rfl (mk_Question_init T) hr (by first | decide | omega) (atW (takes_of (E := E) rfl rfl rfl rfl)) rfl (d_arc (d_pk (pv 6)) (d_arc (d_ex (DF.frz (d_lc (own := [("group", 7)]) rfl sc_read_question.nd (i_it (d_rd (pv 4))) (blkOk_by (N := ["text", "parts", "leads", "at", "follows", "holds", "lead", "group"]) (sc := defScope s_read_question) (by decide +kernel)) (fun _ _ _ _ _ => (pg_name (i := 7) sc_read_question.nd rfl (.inl rfl))) (g_nm (show 7 ∉ ([0] : List Nat) by decide)) (show ∀ i ∈ Tg.sl (.nm 7), i ∈ ([7] : List Nat) by decide) (show ∀ i ∈ ([7] : List Nat), i ∉ ([0] : List Nat) by decide) (fun _ _ _ _ _ => (DF.frz (d_ix (d_pk (pv 7)) (d_ex (d_kd pe_int fun _ => DA.int)) (fun _ _ => rfl) (fun _ _ => rfl) (Room.u1 hr))))))) (d_arc (d_ex (DF.frz (d_lc (own := [("group", 7)]) rfl sc_read_question.nd (i_it (d_rd (pv 5))) (blkOk_by (N := ["text", "parts", "leads", "at", "follows", "holds", "lead", "group"]) (sc := defScope s_read_question) (by decide +kernel)) (fun _ _ _ _ _ => (pg_name (i := 7) sc_read_question.nd rfl (.inl rfl))) (g_nm (show 7 ∉ ([0] : List Nat) by decide)) (show ∀ i ∈ Tg.sl (.nm 7), i ∈ ([7] : List Nat) by decide) (show ∀ i ∈ ([7] : List Nat), i ∉ ([0] : List Nat) by decide) (fun _ _ _ _ _ => (DF.frz (d_tup (d_lsc (DF.frz (d_ix (d_pk (pv 7)) (d_ex (d_kd pe_int fun _ => DA.int)) (fun _ _ => rfl) (fun _ _ => rfl) (Room.u1 hr))) (d_lsc (DF.frz (d_ix (d_pk (pv 7)) (d_ex (d_kd pe_int fun _ => DA.int)) (fun _ _ => rfl) (fun _ _ => rfl) (Room.u1 hr))) d_ls0)))))))) d_ar0)))))))))))))), fn_body (K := kt K) (N := ["text", "parts", "leads", "at", "follows", "holds", "lead", "group"]) (n := 1) (by decide) h⟩), T.g_read_question, F.kp, F.bindsN fun _ _ _ _ _ _ us hl => match us, hl with | [_], _ => rfl⟩
theorem c_move_row (T : Txt K mg) : Cal P w K mg base (L2.CX P w) 1 "move_row" (spD (kt K) 1 m_move_row) := by
  obtain ⟨fd, F⟩ := T.d_move_row
  exact ⟨_, fd, _, F.ok (k := 0) sc_move_row (fun vs H Q E h => h.1) (fun cdv A outer s H vs Q E hr h => ⟨_, DB.pss (W := fun cls dd _ H' => E cls dd H') (Z := ⟨kt K, [0], none⟩) (d_bc (d_asg (d_rd (pv 0)) (oTup K (n := 2) rfl (pgs_cons (pg_name (i := 1) sc_move_row.nd rfl (.inl rfl)) (pgs_cons (pg_name (i := 2) sc_move_row.nd rfl (.inl rfl)) pgs_nil))) (g_tp (n := 2) (gs_cons (g_nm (show 1 ∉ ([0] : List Nat) by decide)) (gs_cons (g_nm (show 2 ∉ ([0] : List Nat) by decide)) gs_nil))))
    (d_b1 (d_ret (DE.df (d_fs (DJ.cons (d_fmt (d_rd (pv 1))) (DJ.cons (d_kd pe_str fun _ => DA.str) (DJ.cons (d_fmt (d_rd (pv 2))) DJ.nil)))))))), fn_body (K := kt K) (N := ["move", "hand", "step"]) (n := 1) (by decide) h⟩), T.g_move_row, F.kp, F.bindsN fun _ _ _ _ _ _ us hl => match us, hl with | [_], _ => rfl⟩
theorem c_read_number (T : Txt K mg) : Cal P w K mg base (L2.CX P w) 3 "read_number" (spD (kt K) 1 m_read_number) := by
  obtain ⟨fd, F⟩ := T.d_read_number
  exact ⟨_, fd, _, F.ok (k := 2) sc_read_number (fun vs H Q E h => h.1) (fun cdv A outer s H vs Q E hr h => ⟨_, DB.pss (W := fun cls dd _ H' => E cls dd H') (Z := ⟨kt K, [0], none⟩) (d_bc (d_if (DW.t (w_or (t_not (t_chn op_le op_le ok_cmp ok_cmp (d_ex (d_kd pe_int fun _ => DA.int)) (d_ex (DF.frz (d_cb (oLen K) ok_len (by rfl) T.n_len PySem.boot_len (d_arc (d_pk (pv 0)) d_ar0)))) (d_ex (d_kd (C8.pe_gc rfl T.c_MOST_FIGURES) fun _ => DA.int)))) (w_or1 (t_not (t_tru (d_ex (DF.frz (d_cb (oAll K rfl) ok_all (by rfl) T.n_all (by decide +kernel) (d_arc (d_ex (DF.frz (d_lc (own := [("sign", 1)]) rfl sc_read_number.nd (i_it (d_rd (pv 0))) (blkOk_by (N := ["part", "sign"]) (sc := defScope s_read_number) (by decide +kernel)) (fun _ _ _ _ _ => (pg_name (i := 1) sc_read_number.nd rfl (.inl rfl))) (g_nm (show 1 ∉ ([0] : List Nat) by decide)) (show ∀ i ∈ Tg.sl (.nm 1), i ∈ ([1] : List Nat) by decide) (show ∀ i ∈ ([1] : List Nat), i ∉ ([0] : List Nat) by decide) (fun _ _ _ _ _ => (DF.frz (d_cmp (oIn K) ok_in (d_pk (pv 1)) (d_ex (d_kd (C8.pe_gc rfl T.c_FIGURES) fun _ => DA.str)) (by rfl))))))) d_ar0))))))))) (d_b1 (d_rse rfl (List.cons_ne_nil _ _) flN_ok rfl (takes_of (E := E) rfl rfl rfl rfl) (x_BadRow T) hr (by first | decide | omega) rfl (d_lsc (d_kd pe_int fun _ => DA.int) d_ls0))) d_b0)
    (d_bc (d_if (DW.t (w_and (t_cmp (oEq K hr.units) ok_eq (d_ex (DF.frz (d_ix (d_pk (pv 0)) (d_ex (d_kd pe_int fun _ => DA.int)) (fun _ _ => rfl) (fun _ _ => rfl) (Room.u1 hr)))) (d_ex (d_kd pe_str fun _ => DA.str)) (nomark _)) (w_and1 (t_cmp (oNe K hr.units) ok_ne (d_pk (pv 0)) (d_ex (d_kd pe_str fun _ => DA.str)) (nomark _))))) (d_b1 (d_rse rfl (List.cons_ne_nil _ _) flN_ok rfl (takes_of (E := E) rfl rfl rfl rfl) (x_BadRow T) hr (by first | decide | omega) rfl (d_lsc (d_kd pe_int fun _ => DA.int) d_ls0))) d_b0)
    (d_b1 (d_ret (d_cty call_int_str ok_intW (by rfl) T.n_int (by decide +kernel) (d_arc (d_pk (pv 0)) d_ar0)))))), fn_body (K := kt K) (N := ["part", "sign"]) (n := 1) (by decide) h⟩), T.g_read_number, F.kp, F.bindsN fun _ _ _ _ _ _ us hl => match us, hl with | [_], _ => rfl⟩
theorem c_read_move (T : Txt K mg) : Cal P w K mg base (L2.CX P w) 4 "read_move" (spD (kt K) 1 m_read_move) := by
  obtain ⟨fd, F⟩ := T.d_read_move
  exact ⟨_, fd, _, F.ok (k := 3) sc_read_move (fun vs H Q E h => h.1) (fun cdv A outer s H vs Q E hr h => ⟨_, DB.pss (W := fun cls dd _ H' => E cls dd H') (Z := ⟨kt K, [0], none⟩) (d_bc (d_set (i := 1) (show 1 ∉ ([0] : List Nat) by decide) (d_split (pe_bm PySem.F.plainAttrs_str PySem.F.slot_str_split PySem.F.type_str_split oSplit (DE.pe (d_rd (pv 0))) (pa_de (d_kd pe_str fun _ => DA.str)))) sc_read_move.nd rfl (.inl rfl))
    (d_bc (d_if (t_cmp (oNe K hr.units) ok_ne (d_ex (DF.frz (d_cb (oLen K) ok_len (by rfl) T.n_len PySem.boot_len (d_arc (d_pk (pv 1)) d_ar0)))) (d_ex (d_kd pe_int fun _ => DA.int)) (nomark _)) (d_b1 (d_rse rfl (List.cons_ne_nil _ _) flN_ok rfl (takes_of (E := E) rfl rfl rfl rfl) (x_BadRow T) hr (by first | decide | omega) rfl (d_lsc (d_kd pe_int fun _ => DA.int) d_ls0))) d_b0)
    (d_b1 (d_ret (d_tup (d_lsc (DF.frz (d_call (c_read_number T) hr (by first | decide | omega) (atW (takes_of (E := E) rfl rfl rfl rfl)) rfl (d_arc (d_ex (DF.frz (d_ix (d_pk (pv 1)) (d_ex (d_kd pe_int fun _ => DA.int)) (fun _ _ => rfl) (fun _ _ => rfl) (Room.u1 hr)))) d_ar0))) (d_lsc (DF.frz (d_call (c_read_number T) hr (by first | decide | omega) (atW (takes_of (E := E) rfl rfl rfl rfl)) rfl (d_arc (d_ex (DF.frz (d_ix (d_pk (pv 1)) (d_ex (d_kd pe_int fun _ => DA.int)) (fun _ _ => rfl) (fun _ _ => rfl) (Room.u1 hr)))) d_ar0))) d_ls0))))))), fn_body (K := kt K) (N := ["text", "parts"]) (n := 1) (by decide) h⟩), T.g_read_move, F.kp, F.bindsN fun _ _ _ _ _ _ us hl => match us, hl with | [_], _ => rfl⟩
theorem c_l_cell_at (T : Txt K mg) : Cal P w K mg base (L2.CX P w) 1 "_law_cell_at" (spD (kt K) 2 m_l_cell_at) := by
  obtain ⟨fd, F⟩ := T.d_l_cell_at
  exact ⟨_, fd, _, F.ok (k := 0) sc_l_cell_at (fun vs H Q E h => h.1) (fun cdv A outer s H vs Q E hr h => ⟨_, DB.pss (W := fun cls dd _ H' => E cls dd H') (Z := ⟨kt K, [0, 1], none⟩) (d_bc (d_if (t_cmp op_lt ok_cmp (d_pk (pv 1)) (d_ex (DF.frz (d_cb (oLen K) ok_len (by rfl) T.n_len PySem.boot_len (d_arc (d_pk (pv 0)) d_ar0)))) (nomark _)) (d_b1 (d_ret (d_ix (d_pk (pv 0)) (d_pk (pv 1)) (fun _ _ => rfl) (fun _ _ => rfl) (Room.u1 hr)))) d_b0)
    (d_b1 (d_ret (DE.df (d_kd pe_int fun _ => DA.int))))), fn_body (K := kt K) (N := ["_law_script", "_law_k"]) (n := 2) (by decide) h⟩), T.g_l_cell_at, F.kp, F.bindsN fun _ _ _ _ _ _ us hl => match us, hl with | [_, _], _ => rfl⟩
theorem c_l_state (T : Txt K mg) : Cal P w K mg base (L2.CX P w) 1 "_law_state" (spD (kt K) 1 m_l_state) := by
  obtain ⟨fd, F⟩ := T.d_l_state
  exact ⟨_, fd, _, F.ok (k := 0) sc_l_state (fun vs H Q E h => h.1) (fun cdv A outer s H vs Q E hr h => ⟨_, DB.pss (W := fun cls dd _ H' => E cls dd H') (Z := ⟨kt K, [], none⟩) (d_bc (d_set (i := 0) (show 0 ∉ ([] : List Nat) by decide) (d_cb call_abs ok_abs (by rfl) T.n_abs (by decide +kernel) (d_arc (d_pk (pv 0)) d_ar0)) sc_l_state.nd rfl (.inl rfl))
    (d_b1 (d_ret (d_lst (d_lsc (DF.frz (d_op op_mul ok_mul (d_pk (pv 0)) (d_ex (DF.frz (d_cty call_int1 ok_int (by rfl) T.n_int (by decide +kernel) (d_arc (d_ex (DF.frz (d_cmp op_ge ok_cmp (d_pk (pv 0)) (d_ex (DF.frz (d_op op_pow ok_pow (d_ex (d_kd pe_int fun _ => DA.int)) (d_ex (d_kd pe_int fun _ => DA.int))))) (nomark _)))) d_ar0)))))) (d_lsc (DF.frz (d_op (oAdd K) ok_add (d_ex (DF.frz (d_op op_mod ok_mod (d_pk (pv 0)) (d_ex (d_kd pe_int fun _ => DA.int))))) (d_ex (d_kd pe_int fun _ => DA.int)))) (d_lsc (DF.frz (d_op op_mod ok_mod (d_pk (pv 0)) (d_ex (d_kd pe_int fun _ => DA.int)))) d_ls0))))))), fn_body (K := kt K) (N := ["_law_cell"]) (n := 1) (by decide) h⟩), T.g_l_state, F.kp, F.bindsN fun _ _ _ _ _ _ us hl => match us, hl with | [_], _ => rfl⟩
theorem c_l_digit (T : Txt K mg) : Cal P w K mg base (L2.CX P w) 1 "_law_digit" (spD (kt K) 2 m_l_digit) := by
  obtain ⟨fd, F⟩ := T.d_l_digit
  exact ⟨_, fd, _, F.ok (k := 0) sc_l_digit (fun vs H Q E h => h.1) (fun cdv A outer s H vs Q E hr h => ⟨_, DB.pss (W := fun cls dd _ H' => E cls dd H') (Z := ⟨kt K, [0, 1], none⟩) (d_bc (d_if (t_cmp op_gt ok_cmp (d_ex (DF.frz (d_ix (d_pk (pv 0)) (d_ex (d_kd pe_int fun _ => DA.int)) (fun _ _ => rfl) (fun _ _ => rfl) (Room.u1 hr)))) (d_ex (d_kd pe_int fun _ => DA.int)) (nomark _)) (d_bc (d_set (i := 2) (show 2 ∉ ([0, 1] : List Nat) by decide) (d_op op_mod ok_mod (d_ex (DF.frz (d_ix (d_pk (pv 0)) (d_ex (d_kd pe_int fun _ => DA.int)) (fun _ _ => rfl) (fun _ _ => rfl) (Room.u1 hr)))) (d_pk (pv 1))) sc_l_digit.nd rfl (.inl rfl))
    (d_bc (d_sto (ps_asg (DE.pe (DF.frz (d_op op_fdiv ok_fdiv (d_ex (DF.frz (d_ix (d_pk (pv 0)) (d_ex (d_kd pe_int fun _ => DA.int)) (fun _ _ => rfl) (fun _ _ => rfl) (Room.u1 hr)))) (d_pk (pv 1))))) (pg_sub (pv 0) (DE.pe (d_kd pe_int fun _ => DA.int)) set_list)))
    (d_b1 (d_ret (d_mv (pv 2)))))) d_b0)
    (d_bc (d_set (i := 3) (show 3 ∉ ([0, 1] : List Nat) by decide) (d_op op_mul ok_mul (d_ex (DF.frz (d_ix (d_pk (pv 0)) (d_ex (d_kd pe_int fun _ => DA.int)) (fun _ _ => rfl) (fun _ _ => rfl) (Room.u1 hr)))) (d_ex (DF.frz (d_op (oAdd K) ok_add (d_ex (DF.frz (d_op op_fdiv ok_fdiv (d_ex (DF.frz (d_ix (d_pk (pv 0)) (d_ex (d_kd pe_int fun _ => DA.int)) (fun _ _ => rfl) (fun _ _ => rfl) (Room.u1 hr)))) (d_ex (d_kd pe_int fun _ => DA.int))))) (d_ex (d_kd pe_int fun _ => DA.int)))))) sc_l_digit.nd rfl (.inl rfl))
    (d_bc (d_sto (ps_asg (DE.pe (DF.frz (d_op (oAdd K) ok_add (d_ex (DF.frz (d_op op_mod ok_mod (d_ex (DF.frz (d_op (oAdd K) ok_add (d_pk (pv 3)) (d_ex (DF.frz (d_ix (d_pk (pv 0)) (d_ex (d_kd pe_int fun _ => DA.int)) (fun _ _ => rfl) (fun _ _ => rfl) (Room.u1 hr))))))) (d_ex (d_kd pe_int fun _ => DA.int))))) (d_ex (d_kd pe_int fun _ => DA.int))))) (pg_sub (pv 0) (DE.pe (d_kd pe_int fun _ => DA.int)) set_list)))
    (d_b1 (d_ret (d_op op_mod ok_mod (d_ex (DF.frz (d_op op_fdiv ok_fdiv (d_ex (DF.frz (d_ix (d_pk (pv 0)) (d_ex (d_kd pe_int fun _ => DA.int)) (fun _ _ => rfl) (fun _ _ => rfl) (Room.u1 hr)))) (d_ex (d_kd pe_int fun _ => DA.int))))) (d_pk (pv 1)))))))), fn_body (K := kt K) (N := ["_law_state_here", "_law_base", "_law_found", "_law_more"]) (n := 2) (by decide) h⟩), T.g_l_digit, F.kp, F.bindsN fun _ _ _ _ _ _ us hl => match us, hl with | [_, _], _ => rfl⟩
theorem c_l_name (T : Txt K mg) : Cal P w K mg base (L2.CX P w) 2 "_law_name" (spD (kt K) 2 m_l_name) := by
  obtain ⟨fd, F⟩ := T.d_l_name
  exact ⟨_, fd, _, F.ok (k := 1) sc_l_name (fun vs H Q E h => h.1) (fun cdv A outer s H vs Q E hr h => ⟨_, DB.pss (W := fun cls dd _ H' => E cls dd H') (Z := ⟨kt K, [0, 1], none⟩) (d_bc (d_set (i := 2) (show 2 ∉ ([0, 1] : List Nat) by decide) (DE.df (d_kd pe_str fun _ => DA.str)) sc_l_name.nd rfl (.inl rfl))
    (d_bc (d_set (i := 3) (show 3 ∉ ([0, 1] : List Nat) by decide) (d_call (c_l_digit T) hr (by first | decide | omega) (atW (takes_of (E := E) rfl rfl rfl rfl)) rfl (d_arc (d_pk (pv 0)) (d_arc (d_ex (d_kd pe_int fun _ => DA.int)) d_ar0))) sc_l_name.nd rfl (.inl rfl))
    (d_bc (d_set (i := 4) (show 4 ∉ ([0, 1] : List Nat) by decide) (d_ix (d_pk (pv 2)) (d_ex (DF.frz (d_call (c_l_digit T) hr (by first | decide | omega) (atW (takes_of (E := E) rfl rfl rfl rfl)) rfl (d_arc (d_pk (pv 0)) (d_arc (d_ex (d_kd pe_int fun _ => DA.int)) d_ar0))))) (fun _ _ => rfl) (fun _ _ => rfl) (Room.u1 hr)) sc_l_name.nd rfl (.inl rfl))
    (d_bc (d_for (passes_of rfl) rfl (i_rng1 rfl T.n_range (d_arc (d_ex (DF.frz (d_call (c_l_digit T) hr (by first | decide | omega) (atW (takes_of (E := E) rfl rfl rfl rfl)) rfl (d_arc (d_pk (pv 0)) (d_arc (d_ex (d_kd pe_int fun _ => DA.int)) d_ar0))))) d_ar0)) (pg_name (i := 5) sc_l_name.nd rfl (.inl rfl)) (g_nm (show 5 ∉ ([0, 1] : List Nat) by decide)) (d_b1 (d_set (i := 4) (show 4 ∉ ([0, 1] : List Nat) by decide) (d_op (oAdd K) ok_add (d_pk (pv 4)) (d_ex (DF.frz (d_ix (d_pk (pv 2)) (d_ex (DF.frz (d_call (c_l_digit T) hr (by first | decide | omega) (atW (takes_of (E := E) rfl rfl rfl rfl)) rfl (d_arc (d_pk (pv 0)) (d_arc (d_ex (d_kd pe_int fun _ => DA.int)) d_ar0))))) (fun _ _ => rfl) (fun _ _ => rfl) (Room.u1 hr))))) sc_l_name.nd rfl (.inl rfl))))
    (d_bc (d_if (t_cmp (oEq K hr.units) ok_eq (d_pk (pv 3)) (d_ex (d_kd pe_int fun _ => DA.int)) (nomark _)) (d_b1 (d_set (i := 4) (show 4 ∉ ([0, 1] : List Nat) by decide) (d_ix (d_ex (DF.frz (d_lst (d_lsc (d_kd pe_str fun _ => DA.str) (d_lsc (d_kd pe_str fun _ => DA.str) (d_lsc (d_kd pe_str fun _ => DA.str) (d_lsc (d_kd pe_str fun _ => DA.str) (d_lsc (d_kd pe_str fun _ => DA.str) (d_lsc (d_kd pe_str fun _ => DA.str) (d_lsc (d_kd pe_str fun _ => DA.str) (d_lsc (d_kd pe_str fun _ => DA.str) (d_lsc (d_kd pe_str fun _ => DA.str) (d_lsc (d_kd pe_str fun _ => DA.str) d_ls0))))))))))))) (d_ex (DF.frz (d_call (c_l_digit T) hr (by first | decide | omega) (atW (takes_of (E := E) rfl rfl rfl rfl)) rfl (d_arc (d_pk (pv 0)) (d_arc (d_ex (d_kd pe_int fun _ => DA.int)) d_ar0))))) (fun _ _ => rfl) (fun _ _ => rfl) (Room.u1 hr)) sc_l_name.nd rfl (.inl rfl))) d_b0)
    (d_bc (d_set (i := 6) (show 6 ∉ ([0, 1] : List Nat) by decide) (DE.df (d_rd (pv 4))) sc_l_name.nd rfl (.inl rfl))
    (d_bc (d_set (i := 7) (show 7 ∉ ([0, 1] : List Nat) by decide) (DE.df (d_kd pe_int fun _ => DA.int)) sc_l_name.nd rfl (.inl rfl))
    (d_bc (d_while 1000000 (passes_of rfl) (t_cmp (oIn K) ok_in (d_pk (pv 6)) (d_pk (pv 1)) (by rfl)) (d_bc (d_set (i := 7) (show 7 ∉ ([0, 1] : List Nat) by decide) (d_op (oAdd K) ok_add (d_pk (pv 7)) (d_ex (d_kd pe_int fun _ => DA.int))) sc_l_name.nd rfl (.inl rfl))
    (d_b1 (d_set (i := 6) (show 6 ∉ ([0, 1] : List Nat) by decide) (d_op (oAdd K) ok_add (d_pk (pv 4)) (d_ex (DF.frz (d_cty call_str_int ok_str (by rfl) T.n_str (by decide +kernel) (d_arc (d_pk (pv 7)) d_ar0))))) sc_l_name.nd rfl (.inl rfl)))))
    (d_b1 (d_ret (d_mv (pv 6)))))))))))), fn_body (K := kt K) (N := ["_law_s", "_law_taken", "_law_some", "_law_kind", "_law_stem", "_law_k", "_law_found", "_law_n"]) (n := 2) (by decide) h⟩), T.g_l_name, F.kp, F.bindsN fun _ _ _ _ _ _ us hl => match us, hl with | [_, _], _ => rfl⟩
theorem c_l_names (T : Txt K mg) : Cal P w K mg base (L2.CX P w) 3 "_law_names" (spD (kt K) 2 m_l_names) := by
  obtain ⟨fd, F⟩ := T.d_l_names
  exact ⟨_, fd, _, F.ok (k := 2) sc_l_names (fun vs H Q E h => h.1) (fun cdv A outer s H vs Q E hr h => ⟨_, DB.pss (W := fun cls dd _ H' => E cls dd H') (Z := ⟨kt K, [0, 1], none⟩) (d_bc (d_set (i := 2) (show 2 ∉ ([0, 1] : List Nat) by decide) (d_lst d_ls0) sc_l_names.nd rfl (.inl rfl))
    (d_bc (d_for (passes_of rfl) rfl (i_rng1 rfl T.n_range (d_arc (d_pk (pv 1)) d_ar0)) (pg_name (i := 3) sc_l_names.nd rfl (.inl rfl)) (g_nm (show 3 ∉ ([0, 1] : List Nat) by decide)) (d_b1 (d_drp (d_mut1 (pe_bm PySem.F.plainAttrs_list PySem.F.slot_list_append PySem.F.type_list_append mt_append (pv 2) (DL.pa (d_lsc (DF.frz (d_call (c_l_name T) hr (by first | decide | omega) (atW (takes_of (E := E) rfl rfl rfl rfl)) rfl (d_arc (d_pk (pv 0)) (d_arc (d_pk (pv 2)) d_ar0)))) d_ls0))) ok_app))))
    (d_b1 (d_ret (d_mv (pv 2)))))), fn_body (K := kt K) (N := ["_law_s", "_law_many", "_law_found", "_law_k"]) (n := 2) (by decide) h⟩), T.g_l_names, F.kp, F.bindsN fun _ _ _ _ _ _ us hl => match us, hl with | [_, _], _ => rfl⟩
theorem c_l_words_of (T : Txt K mg) : Cal P w K mg base (L2.CX P w) 1 "_law_words_of" (spD (kt K) 3 m_l_words_of) := by
  obtain ⟨fd, F⟩ := T.d_l_words_of
  exact ⟨_, fd, _, F.ok (k := 0) sc_l_words_of (fun vs H Q E h => h.1) (fun cdv A outer s H vs Q E hr h => ⟨_, DB.pss (W := fun cls dd _ H' => E cls dd H') (Z := ⟨kt K, [0, 1, 2], none⟩) (d_bc (d_set (i := 3) (show 3 ∉ ([0, 1, 2] : List Nat) by decide) (d_lst d_ls0) sc_l_words_of.nd rfl (.inl rfl))
    (d_bc (d_if (t_cmp op_notN1 ok_notN (d_pk (pv 0)) (d_ex (d_kd pe_non fun _ => DA.non)) (nomark _)) (d_b1 (d_set (i := 3) (show 3 ∉ ([0, 1, 2] : List Nat) by decide) (d_lst (d_lsc (d_kd pe_str fun _ => DA.str) (d_lsc (d_rd (pv 0)) d_ls0))) sc_l_words_of.nd rfl (.inl rfl))) d_b0)
    (d_bc (d_for (passes_of rfl) rfl (i_it (d_rd (pv 1))) (pg_name (i := 4) sc_l_words_of.nd rfl (.inl rfl)) (g_nm (show 4 ∉ ([0, 1, 2] : List Nat) by decide)) (d_b1 (d_set (i := 3) (show 3 ∉ ([0, 1, 2] : List Nat) by decide) (d_op (oAdd K) ok_add (d_pk (pv 3)) (d_ex (DF.frz (d_lst (d_lsc (d_kd pe_str fun _ => DA.str) (d_lsc (d_rd (pv 4)) d_ls0)))))) sc_l_words_of.nd rfl (.inl rfl))))
    (d_bc (d_for (passes_of rfl) rfl (i_it (d_rd (pv 2))) (oTup K (n := 2) rfl (pgs_cons (pg_name (i := 5) sc_l_words_of.nd rfl (.inl rfl)) (pgs_cons (pg_name (i := 6) sc_l_words_of.nd rfl (.inl rfl)) pgs_nil))) (g_tp (n := 2) (gs_cons (g_nm (show 5 ∉ ([0, 1, 2] : List Nat) by decide)) (gs_cons (g_nm (show 6 ∉ ([0, 1, 2] : List Nat) by decide)) gs_nil))) (d_b1 (d_set (i := 3) (show 3 ∉ ([0, 1, 2] : List Nat) by decide) (d_op (oAdd K) ok_add (d_pk (pv 3)) (d_ex (DF.frz (d_lst (d_lsc (d_kd pe_str fun _ => DA.str) (d_lsc (d_rd (pv 5)) (d_lsc (d_rd (pv 6)) d_ls0))))))) sc_l_words_of.nd rfl (.inl rfl))))
    (d_b1 (d_ret (DE.df (d_join (pe_bm PySem.F.plainAttrs_str PySem.F.slot_str_join PySem.F.type_str_join (oJoin K) (DE.pe (d_kd pe_str fun _ => DA.str)) (pa_de (DF.frz (d_op (oAdd K) ok_add (d_pk (pv 3)) (d_ex (DF.frz (d_rep (d_lst (d_lsc (d_kd pe_str fun _ => DA.str) d_ls0)) (d_ex (DF.frz (d_cty call_int1 ok_int (by rfl) T.n_int (by decide +kernel) (d_arc (d_ex (DF.frz (d_cmp (oEq K hr.units) ok_eq (d_pk (pv 3)) (d_ex (DF.frz (d_lst d_ls0))) (nomark _)))) d_ar0))))))))))))))))))), fn_body (K := kt K) (N := ["_law_lead", "_law_follows", "_law_holds", "_law_parts", "_law_name_here", "_law_cell", "_law_value"]) (n := 3) (by decide) h⟩), T.g_l_words_of, F.kp, F.bindsN fun _ _ _ _ _ _ us hl => match us, hl with | [_, _, _], _ => rfl⟩
theorem c_l_figure (T : Txt K mg) : Cal P w K mg base (L2.CX P w) 2 "_law_figure" (spD (kt K) 1 m_l_figure) := by
  obtain ⟨fd, F⟩ := T.d_l_figure
  exact ⟨_, fd, _, F.ok (k := 1) sc_l_figure (fun vs H Q E h => h.1) (fun cdv A outer s H vs Q E hr h => ⟨_, DB.pss (W := fun cls dd _ H' => E cls dd H') (Z := ⟨kt K, [0], none⟩) (d_b1 (d_ret (d_lst (d_lsc (DF.frz (d_call (c_l_digit T) hr (by first | decide | omega) (atW (takes_of (E := E) rfl rfl rfl rfl)) rfl (d_arc (d_pk (pv 0)) (d_arc (d_ex (d_kd pe_int fun _ => DA.int)) d_ar0)))) (d_lsc (DF.frz (d_call (c_l_digit T) hr (by first | decide | omega) (atW (takes_of (E := E) rfl rfl rfl rfl)) rfl (d_arc (d_pk (pv 0)) (d_arc (d_ex (d_kd pe_int fun _ => DA.int)) d_ar0)))) (d_lsc (DF.frz (d_op (oAdd K) ok_add (d_ex (DF.frz (d_op op_mul ok_mul (d_ex (DF.frz (d_call (c_l_digit T) hr (by first | decide | omega) (atW (takes_of (E := E) rfl rfl rfl rfl)) rfl (d_arc (d_pk (pv 0)) (d_arc (d_ex (DF.frz (d_op op_pow ok_pow (d_ex (d_kd pe_int fun _ => DA.int)) (d_ex (d_kd pe_int fun _ => DA.int))))) d_ar0))))) (d_ex (DF.frz (d_op op_pow ok_pow (d_ex (d_kd pe_int fun _ => DA.int)) (d_ex (d_kd pe_int fun _ => DA.int)))))))) (d_ex (DF.frz (d_call (c_l_digit T) hr (by first | decide | omega) (atW (takes_of (E := E) rfl rfl rfl rfl)) rfl (d_arc (d_pk (pv 0)) (d_arc (d_ex (DF.frz (d_op op_pow ok_pow (d_ex (d_kd pe_int fun _ => DA.int)) (d_ex (d_kd pe_int fun _ => DA.int))))) d_ar0))))))) d_ls0)))))), fn_body (K := kt K) (N := ["_law_s"]) (n := 1) (by decide) h⟩), T.g_l_figure, F.kp, F.bindsN fun _ _ _ _ _ _ us hl => match us, hl with | [_], _ => rfl⟩
end

section
variable {P : Program} {K : PySem.W.Frag} {w : World} {mg : Str → Option Value} {base : Heap}
def spLaw (K : PySem.W.Frag) : Sp := fun vs H Q _ => ∃ (a : Addr) (ns : List Int), vs = [.ref a] ∧ SqL K H a (ns.map V.int) ∧ ns.length ≤ 63 ∧ ∀ H', Q (.bl true) H'
theorem das_ints {K : Kt} {F : Hp} : ∀ ns : List Int, DAs K F (ns.map D.int) (ns.map V.int)
  | [] => .nil
  | _ :: ns => .cons DA.int (das_ints ns)
theorem law_sp {m : List S → Rs S} (hm : ∀ ns : List Int, ns.length ≤ 63 → ∃ ρ, m [.d (.lst (ns.map .int))] = .ok (.d (.bl true)) ρ) {vs : List V} {H : Hp} {Q : VK} {E E' : XK} (h : spLaw K vs H Q E) : spD (kt K) 1 m vs H Q E' := by
  obtain ⟨a, ns, rfl, hS, hl, k⟩ := h
  obtain ⟨ρ, e⟩ := hm ns hl
  refine ⟨rfl, H, [.d (.lst (ns.map .int))], ⟨Same.refl _, rfl, fun i s hi => ?_, fun i j a hi => ?_⟩, ?_⟩
  · cases i with
    | zero => cases hi; exact ⟨_, rfl, by unfold DA; exact ⟨a, _, rfl, hS, das_ints ns⟩⟩
    | succ i => simp at hi
  · obtain ⟨_, s, h2, h3⟩ := hi
    cases i with
    | zero => cases h2; cases h3
    | succ i => simp at h2
  · rw [e]
    intro F' H' st ea v hv
    obtain ⟨⟨v', e', h'⟩, _⟩ := hv
    cases e'
    unfold DA at h'
    rw [h']; exact k _
theorem ok_law0 (T : Txt K mg) {fd : FuncData} (F : FunD K "law" "law" (defArgs s_law) (defBody s_law) (defScope s_law) [] [] (He.fAd K ("law", none)) fd) (hm : ∀ ns : List Int, ns.length ≤ 63 → ∃ ρ, m_law [.d (.lst (ns.map .int))] = .ok (.d (.bl true)) ρ) : FnOk P w K mg base CX0 20 (He.fAd K ("law", none)) fd ["_law_script"] (spLaw K) :=
  F.ok (k := 19) sc_law (fun vs H Q E h => by obtain ⟨_, _, rfl, _⟩ := h; rfl) (fun cdv A outer s H vs Q E hr h => ⟨_, PSs.nox (DB.pss (W := W0) (Z := ⟨kt K, [0], none⟩) (d_bc (d_for PassesOwn.never rfl (i_rng1 rfl T.n_range (d_arc (d_ex (DF.frz (d_cb (call_max2 rfl) ok_max2 (by rfl) T.n_max (by decide +kernel) (d_arc (d_ex (d_kd pe_int fun _ => DA.int)) (d_arc (d_ex (DF.frz (d_cb (call_min2 rfl) ok_min2 (by rfl) T.n_min (by decide +kernel) (d_arc (d_ex (d_kd pe_int fun _ => DA.int)) (d_arc (d_ex (DF.frz (d_cb (oLen K) ok_len (by rfl) T.n_len PySem.boot_len (d_arc (d_pk (pv 0)) d_ar0)))) d_ar0))))) d_ar0))))) d_ar0)) (pg_name (i := 1) sc_law.nd rfl (.inl rfl)) (g_nm (show 1 ∉ ([0] : List Nat) by decide)) (d_bc (d_set (i := 2) (show 2 ∉ ([0] : List Nat) by decide) (d_call (c_l_state T) hr (by first | decide | omega) atL rfl (d_arc (d_ex (DF.frz (d_op (oAdd K) ok_add (d_ex (DF.frz (d_call (c_l_cell_at T) hr (by first | decide | omega) atL rfl (d_arc (d_pk (pv 0)) (d_arc (d_pk (pv 1)) d_ar0))))) (d_ex (DF.frz (d_op op_mul ok_mul (d_ex (d_kd pe_int fun _ => DA.int)) (d_pk (pv 1)))))))) d_ar0)) sc_law.nd rfl (.inr rfl))
    (d_bc (d_set (i := 3) (show 3 ∉ ([0] : List Nat) by decide) (d_op (oAdd K) ok_add (d_ex (DF.frz (d_call (c_l_names T) hr (by first | decide | omega) atL rfl (d_arc (d_pk (pv 2)) (d_arc (d_ex (d_kd pe_int fun _ => DA.int)) d_ar0))))) (d_ex (DF.frz (d_lst (d_lsc (DF.frz (d_ix (d_ex (DF.frz (d_lst (d_lsc (d_kd pe_str fun _ => DA.str) (d_lsc (d_kd pe_str fun _ => DA.str) (d_lsc (d_kd pe_str fun _ => DA.str) (d_lsc (d_kd pe_str fun _ => DA.str) d_ls0))))))) (d_ex (DF.frz (d_call (c_l_digit T) hr (by first | decide | omega) atL rfl (d_arc (d_pk (pv 2)) (d_arc (d_ex (d_kd pe_int fun _ => DA.int)) d_ar0))))) (fun _ _ => rfl) (fun _ _ => rfl) (Room.u1 hr))) d_ls0))))) sc_law.nd rfl (.inr rfl))
    (d_bc (d_set (i := 4) (show 4 ∉ ([0] : List Nat) by decide) (d_ix (d_ex (DF.frz (d_lst (d_lsc (d_kd pe_non fun _ => DA.non) (d_lsc (DF.frz (d_ix (d_pk (pv 3)) (d_ex (DF.frz (d_call (c_l_digit T) hr (by first | decide | omega) atL rfl (d_arc (d_pk (pv 2)) (d_arc (d_ex (d_kd pe_int fun _ => DA.int)) d_ar0))))) (fun _ _ => rfl) (fun _ _ => rfl) (Room.u1 hr))) d_ls0))))) (d_ex (DF.frz (d_call (c_l_digit T) hr (by first | decide | omega) atL rfl (d_arc (d_pk (pv 2)) (d_arc (d_ex (d_kd pe_int fun _ => DA.int)) d_ar0))))) (fun _ _ => rfl) (fun _ _ => rfl) (Room.u1 hr)) sc_law.nd rfl (.inl rfl))
    (d_bc (d_setLc (own := [("_law_turn", 5)]) (i := 6) (show 6 ∉ ([0] : List Nat) by decide) rfl sc_law.nd rfl rfl (sw_true rfl rfl rfl (by decide +kernel)) (i_rng1 rfl T.n_range (d_arc (d_ex (DF.frz (d_call (c_l_digit T) hr (by first | decide | omega) atL rfl (d_arc (d_pk (pv 2)) (d_arc (d_ex (d_kd pe_int fun _ => DA.int)) d_ar0))))) d_ar0)) (blkOk_by (N := ["_law_script", "_law_k", "_law_s", "_law_some", "_law_lead", "_law_turn", "_law_follows", "_law_cells", "_law_holds", "_law_handed", "_law_question", "_law_row", "_law_found", "_law_hand", "_law_step", "_law_cell"]) (sc := defScope s_law) (by decide +kernel)) (fun _ _ _ _ _ => (pg_name (i := 5) sc_law.nd rfl (.inl rfl))) (g_nm (show 5 ∉ ([0] : List Nat) by decide)) (show ∀ i ∈ Tg.sl (.nm 5), i ∈ ([5] : List Nat) by decide) (show ∀ i ∈ ([5] : List Nat), i ∉ ([0] : List Nat) by decide) (fun _ _ _ _ _ => (DF.frz (d_ix (d_pk (pv 3)) (d_ex (DF.frz (d_call (c_l_digit T) hr (by first | decide | omega) atL rfl (d_arc (d_pk (pv 2)) (d_arc (d_ex (d_kd pe_int fun _ => DA.int)) d_ar0))))) (fun _ _ => rfl) (fun _ _ => rfl) (Room.u1 hr)))))
    (d_bc (d_set (i := 7) (show 7 ∉ ([0] : List Nat) by decide) (d_slA (d_ex (DF.frz (d_srtZ rfl rfl (d_setZ rfl (d_arc (d_pk (pv 3)) d_ar0) (by rfl) T.n_set (by decide +kernel)) (by rfl) T.n_sorted (by decide +kernel)))) d_no (d_part (DF.frz (d_call (c_l_digit T) hr (by first | decide | omega) atL rfl (d_arc (d_pk (pv 2)) (d_arc (d_ex (d_kd pe_int fun _ => DA.int)) d_ar0)))))) sc_law.nd rfl (.inl rfl))
    (d_bc (d_setLc (own := [("_law_cell", 15)]) (i := 8) (show 8 ∉ ([0] : List Nat) by decide) rfl sc_law.nd rfl rfl (sw_true rfl rfl rfl (by decide +kernel)) (i_it (d_rd (pv 7))) (blkOk_by (N := ["_law_script", "_law_k", "_law_s", "_law_some", "_law_lead", "_law_turn", "_law_follows", "_law_cells", "_law_holds", "_law_handed", "_law_question", "_law_row", "_law_found", "_law_hand", "_law_step", "_law_cell"]) (sc := defScope s_law) (by decide +kernel)) (fun _ _ _ _ _ => (pg_name (i := 15) sc_law.nd rfl (.inl rfl))) (g_nm (show 15 ∉ ([0] : List Nat) by decide)) (show ∀ i ∈ Tg.sl (.nm 15), i ∈ ([15] : List Nat) by decide) (show ∀ i ∈ ([15] : List Nat), i ∉ ([0] : List Nat) by decide) (fun _ _ _ _ _ => (DF.frz (d_tup (d_lsc (d_rd (pv 15)) (d_lsc (DF.frz (d_ix (d_pk (pv 3)) (d_ex (DF.frz (d_call (c_l_digit T) hr (by first | decide | omega) atL rfl (d_arc (d_pk (pv 2)) (d_arc (d_ex (d_kd pe_int fun _ => DA.int)) d_ar0))))) (fun _ _ => rfl) (fun _ _ => rfl) (Room.u1 hr))) d_ls0))))))
    (d_bc (d_set (i := 9) (show 9 ∉ ([0] : List Nat) by decide) (d_lst (d_lsc (DF.frz (d_cty (oList K) ok_list (by rfl) T.n_list (by decide +kernel) (d_arc (d_pk (pv 6)) d_ar0))) (d_lsc (DF.frz (d_cty (oList K) ok_list (by rfl) T.n_list (by decide +kernel) (d_arc (d_pk (pv 8)) d_ar0))) d_ls0))) sc_law.nd rfl (.inl rfl))
    (d_bc (d_set (i := 10) (show 10 ∉ ([0] : List Nat) by decide) (d_make rfl (mk_Question_init T) hr (by first | decide | omega) atL rfl (d_arc (d_pk (pv 4)) (d_arc (d_ex (DF.frz (d_ix (d_pk (pv 9)) (d_ex (d_kd pe_int fun _ => DA.int)) (fun _ _ => rfl) (fun _ _ => rfl) (Room.u1 hr)))) (d_arc (d_ex (DF.frz (d_ix (d_pk (pv 9)) (d_ex (d_kd pe_int fun _ => DA.int)) (fun _ _ => rfl) (fun _ _ => rfl) (Room.u1 hr)))) d_ar0)))) sc_law.nd rfl (.inl rfl))
    (d_bc (d_set (i := 11) (show 11 ∉ ([0] : List Nat) by decide) (d_call (c_l_words_of T) hr (by first | decide | omega) atL rfl (d_arc (d_pk (pv 4)) (d_arc (d_pk (pv 6)) (d_arc (d_pk (pv 8)) d_ar0)))) sc_law.nd rfl (.inl rfl))
    (d_bc (d_for PassesOwn.never rfl (i_rng1 rfl T.n_range (d_arc (d_ex (d_kd pe_int fun _ => DA.int)) d_ar0)) (pg_name (i := 5) sc_law.nd rfl (.inl rfl)) (g_nm (show 5 ∉ ([0] : List Nat) by decide)) (d_bc (d_set (i := 12) (show 12 ∉ ([0] : List Nat) by decide) (d_call (c_read_question T) hr (by first | decide | omega) atL rfl (d_arc (d_pk (pv 11)) d_ar0)) sc_law.nd rfl (.inl rfl))
    (d_bc (d_if (DW.t (w_or (t_cmp (oNeB (eq_all T 6) hr (by first | decide | omega)) ok_neB (d_ex (DF.frz (d_call (c_question_row T) hr (by first | decide | omega) atL rfl (d_arc (d_pk (pv 10)) d_ar0)))) (d_pk (pv 11)) (nomark _)) (w_or (t_not (t_tru (d_ex (DF.frz (d_isi (T.k_Question) (by rfl) T.n_isinstance (by decide +kernel) (pa_cons (DO.pe (d_pk (pv 12))) (pa_cons (C8.pe_gc (v := .ref (He.ga K "Question")) rfl ⟨_, T.g_Question, rfl⟩) pa_nil))))))) (w_or1 (t_not (t_cmp (oEqB (eq_all T 6) hr (by first | decide | omega)) ok_eqB (d_pk (pv 12)) (d_pk (pv 10)) (nomark _))))))) (d_b1 (d_ret (DE.df (d_kd pe_bl fun _ => DA.bl)))) d_b0)
    (d_bc (d_if (t_cmp (oNeB (eq_all T 6) hr (by first | decide | omega)) ok_neB (d_ex (DF.frz (d_tup (d_lsc (DF.frz (d_fld (d_pk (pv 12)) (fo_lead T))) (d_lsc (DF.frz (d_fld (d_pk (pv 12)) (fo_follows T))) (d_lsc (DF.frz (d_fld (d_pk (pv 12)) (fo_holds T))) d_ls0)))))) (d_ex (DF.frz (d_tup (d_lsc (d_rd (pv 4)) (d_lsc (DF.frz (d_cty (oTuple K) ok_tuple (by rfl) T.n_tuple (by decide +kernel) (d_arc (d_pk (pv 6)) d_ar0))) (d_lsc (DF.frz (d_cty (oTuple K) ok_tuple (by rfl) T.n_tuple (by decide +kernel) (d_arc (d_pk (pv 8)) d_ar0))) d_ls0)))))) (nomark _)) (d_b1 (d_ret (DE.df (d_kd pe_bl fun _ => DA.bl)))) d_b0)
    (d_b1 (d_if (DW.t (w_or (t_cmp (oNeB (eq_all T 6) hr (by first | decide | omega)) ok_neB (d_ex (DF.frz (d_call (c_question_row T) hr (by first | decide | omega) atL rfl (d_arc (d_pk (pv 12)) d_ar0)))) (d_pk (pv 11)) (nomark _)) (w_or1 (t_cmp (oNeB (eq_all T 6) hr (by first | decide | omega)) ok_neB (d_pk (pv 9)) (d_ex (DF.frz (d_lst (d_lsc (d_rd (pv 6)) (d_lsc (d_rd (pv 8)) d_ls0))))) (nomark _))))) (d_b1 (d_ret (DE.df (d_kd pe_bl fun _ => DA.bl)))) d_b0))))))
    (d_bc (d_set (i := 13) (show 13 ∉ ([0] : List Nat) by decide) (d_ix (d_ex (DF.frz (d_call (c_l_figure T) hr (by first | decide | omega) atL rfl (d_arc (d_pk (pv 2)) d_ar0)))) (d_ex (DF.frz (d_call (c_l_digit T) hr (by first | decide | omega) atL rfl (d_arc (d_pk (pv 2)) (d_arc (d_ex (d_kd pe_int fun _ => DA.int)) d_ar0))))) (fun _ _ => rfl) (fun _ _ => rfl) (Room.u1 hr)) sc_law.nd rfl (.inl rfl))
    (d_bc (d_set (i := 14) (show 14 ∉ ([0] : List Nat) by decide) (d_ix (d_ex (DF.frz (d_call (c_l_figure T) hr (by first | decide | omega) atL rfl (d_arc (d_pk (pv 2)) d_ar0)))) (d_ex (DF.frz (d_call (c_l_digit T) hr (by first | decide | omega) atL rfl (d_arc (d_pk (pv 2)) (d_arc (d_ex (d_kd pe_int fun _ => DA.int)) d_ar0))))) (fun _ _ => rfl) (fun _ _ => rfl) (Room.u1 hr)) sc_law.nd rfl (.inl rfl))
    (d_b1 (d_if (DW.t (w_or (t_cmp (oNeB (eq_all T 6) hr (by first | decide | omega)) ok_neB (d_ex (DF.frz (d_call (c_move_row T) hr (by first | decide | omega) atL rfl (d_arc (d_ex (DF.frz (d_tup (d_lsc (d_rd (pv 13)) (d_lsc (d_rd (pv 14)) d_ls0))))) d_ar0)))) (d_ex (DF.frz (d_op (oAdd K) ok_add (d_ex (DF.frz (d_op (oAdd K) ok_add (d_ex (DF.frz (d_cty call_str_int ok_str (by rfl) T.n_str (by decide +kernel) (d_arc (d_pk (pv 13)) d_ar0)))) (d_ex (d_kd pe_str fun _ => DA.str))))) (d_ex (DF.frz (d_cty call_str_int ok_str (by rfl) T.n_str (by decide +kernel) (d_arc (d_pk (pv 14)) d_ar0))))))) (nomark _)) (w_or1 (t_cmp (oNeB (eq_all T 6) hr (by first | decide | omega)) ok_neB (d_ex (DF.frz (d_call (c_read_move T) hr (by first | decide | omega) atL rfl (d_arc (d_ex (DF.frz (d_call (c_move_row T) hr (by first | decide | omega) atL rfl (d_arc (d_ex (DF.frz (d_tup (d_lsc (d_rd (pv 13)) (d_lsc (d_rd (pv 14)) d_ls0))))) d_ar0)))) d_ar0)))) (d_ex (DF.frz (d_tup (d_lsc (d_rd (pv 13)) (d_lsc (d_rd (pv 14)) d_ls0))))) (nomark _))))) (d_b1 (d_ret (DE.df (d_kd pe_bl fun _ => DA.bl)))) d_b0)))))))))))))))
    (d_b1 (d_ret (DE.df (d_and (DF.frz (d_cmp (oEqB (eq_all T 6) hr (by first | decide | omega)) ok_eqB (d_ex (DF.frz (d_call (c_question_row T) hr (by first | decide | omega) atL rfl (d_arc (d_ex (DF.frz (d_makeD0 rfl (cd_Question_init_0 T) hr (by first | decide | omega) atL rfl))) d_ar0)))) (d_ex (d_kd pe_str fun _ => DA.str)) (nomark _))) (d_and (DF.frz (d_cmp (oEqB (eq_all T 6) hr (by first | decide | omega)) ok_eqB (d_ex (DF.frz (d_call (c_read_question T) hr (by first | decide | omega) atL rfl (d_arc (d_ex (d_kd pe_str fun _ => DA.str)) d_ar0)))) (d_ex (DF.frz (d_makeD0 rfl (cd_Question_init_0 T) hr (by first | decide | omega) atL rfl))) (nomark _))) (d_one (DF.frz (d_cmp (oEqB (eq_all T 6) hr (by first | decide | omega)) ok_eqB (d_ex (DF.frz (d_call (c_read_move T) hr (by first | decide | omega) atL rfl (d_arc (d_ex (d_kd pe_str fun _ => DA.str)) d_ar0)))) (d_ex (DF.frz (d_tup (d_lsc (d_kd pe_int fun _ => DA.int) (d_lsc (d_kd pe_int fun _ => DA.int) d_ls0))))) (nomark _))))))))))), fn_body (K := kt K) (N := ["_law_script", "_law_k", "_law_s", "_law_some", "_law_lead", "_law_turn", "_law_follows", "_law_cells", "_law_holds", "_law_handed", "_law_question", "_law_row", "_law_found", "_law_hand", "_law_step", "_law_cell"]) (n := 1) (by decide) (law_sp hm h)⟩)
end


def LETS : Str := "abcdefghijklmnopqrstuvwxyz"
def LFS : Str := "abcdefghijklmnopqrstuvwxyz0123456789"
/-- a name: 1 to 10 signs, a letter ahead -/
def isNm (l : List Nat) : Bool := decide (1 ≤ l.length) && decide (l.length ≤ 10) && (match l with | c :: _ => decide (c ∈ LETS.cps.toList) | [] => false) && l.all fun c => decide (c ∈ LFS.cps.toList)
theorem isNm_long {l : List Nat} (h : ¬ l.length ≤ 10) : isNm l = false := by simp only [isNm, decide_eq_false h, Bool.and_false, Bool.false_and]
theorem isNm_empty {l : List Nat} (h : ¬ 1 ≤ l.length) : isNm l = false := by simp only [isNm, decide_eq_false h, Bool.false_and]
theorem isNm_head {c : Nat} {r : List Nat} (h : ¬ c ∈ LETS.cps.toList) : isNm (c :: r) = false := by simp only [isNm, decide_eq_false h, Bool.and_false, Bool.false_and]
theorem isNm_all {c : Nat} {r : List Nat} (h1 : 1 ≤ (c :: r).length) (h2 : (c :: r).length ≤ 10) (h : c ∈ LETS.cps.toList) : isNm (c :: r) = (c :: r).all fun c => decide (c ∈ LFS.cps.toList) := by simp only [isNm, decide_eq_true h, decide_eq_true h1, decide_eq_true h2, Bool.true_and]
def DIGS : Str := "0123456789"
theorem lfs_eq : LFS.cps.toList = LETS.cps.toList ++ DIGS.cps.toList := by decide +kernel
def Sd (a b c : Int) : Prop := 0 ≤ a ∧ 7 ≤ b ∧ b < 2147483640 ∧ 0 ≤ c ∧ c < 2147483640
theorem len36 : ("abcdefghijklmnopqrstuvwxyz0123456789" : Str).cps.toList.length = 36 := by decide +kernel
theorem ln36 : ("abcdefghijklmnopqrstuvwxyz0123456789" : Str).length ≤ sizeLine := by decide +kernel
theorem str_len_app (x y : Str) : (x ++ y).length = x.length + y.length := by
  show (x ++ y).cps.size = x.cps.size + y.cps.size
  exact Array.size_append
theorem str_app_list (x y : Str) : (x ++ y).cps.toList = x.cps.toList ++ y.cps.toList := by
  show (x.cps ++ y.cps).toList = _
  exact Array.toList_append
/-- a number's text -/
def nT (n : Nat) : Str := Str.ofString (toString (n : Int))
theorem nT_ok : ∀ n, n < 60 → (nT n).cps.toList.all (fun c => decide (c ∈ LFS.cps.toList)) = true ∧ 1 ≤ (nT n).length ∧ (nT n).length ≤ 2 := by decide +kernel
theorem nT_inj : ∀ i, i < 60 → ∀ j, j < 60 → (nT i).cps.toList = (nT j).cps.toList → i = j := by decide +kernel
/-- a name as the law makes them: at most so many signs -/
def Nm (k : Nat) (z : Str) : Prop := 1 ≤ z.length ∧ z.length ≤ k ∧ (∃ c r, z.cps.toList = c :: r ∧ c ∈ LETS.cps.toList) ∧ ∀ c ∈ z.cps.toList, c ∈ LFS.cps.toList
theorem Nm.is {k : Nat} {z : Str} (h : Nm k z) (hk : k ≤ 10) : isNm z.cps.toList = true := by
  obtain ⟨h1, h2, ⟨c, r, e, hc⟩, ha⟩ := h
  have zl : z.length = z.cps.toList.length := rfl
  rw [zl, e] at h1 h2
  rw [e] at ha
  rw [e, isNm_all h1 (by omega) hc]
  exact List.all_eq_true.mpr fun c hc => decide_eq_true (ha c hc)
theorem Nm.mono {k l : Nat} {z : Str} (h : Nm k z) (hk : k ≤ l) : Nm l z := ⟨h.1, Nat.le_trans h.2.1 hk, h.2.2⟩
theorem Nm.app {k l : Nat} {x y : Str} (h : Nm k x) (hy : ∀ c ∈ y.cps.toList, c ∈ LFS.cps.toList) (hl : y.length ≤ l) : Nm (k + l) (x ++ y) := by
  obtain ⟨h1, h2, ⟨c, r, e, hc⟩, ha⟩ := h
  refine ⟨by rw [str_len_app]; omega, by rw [str_len_app]; omega, ⟨c, r ++ y.cps.toList, by rw [str_app_list, e]; rfl, hc⟩, fun d hd => ?_⟩
  rw [str_app_list] at hd
  rcases List.mem_append.mp hd with h | h
  · exact ha d h
  · exact hy d h
/-- the i-th text that is tried -/
def nTry (z : Str) (i : Nat) : Str := if i = 0 then z else z ++ nT i
theorem nTry_inj {z : Str} {i j : Nat} (hi : i < 60) (hj : j < 60) (h : nTry z i = nTry z j) : i = j := by
  have e : (nTry z i).cps.toList = (nTry z j).cps.toList := by rw [h]
  have len : ∀ i, 0 < i → i < 60 → 1 ≤ (nT i).cps.toList.length := fun i _ h => (nT_ok i h).2.1
  unfold nTry at e
  split at e <;> split at e
  · omega
  · rw [str_app_list] at e
    have := congrArg List.length e
    rw [List.length_append] at this
    have := len j (by omega) hj
    omega
  · rw [str_app_list] at e
    have := congrArg List.length e
    rw [List.length_append] at this
    have := len i (by omega) hi
    omega
  · rw [str_app_list, str_app_list] at e
    exact nT_inj i hi j hj (List.append_cancel_left e)
theorem sub_len : ∀ (l m : List Str), l.Nodup → (∀ x ∈ l, x ∈ m) → l.length ≤ m.length
  | [], _, _, _ => Nat.zero_le _
  | x :: l, m, hn, hs => by
    obtain ⟨h1, h2⟩ := List.nodup_cons.mp hn
    have hx := hs x (List.mem_cons_self ..)
    have := sub_len l (m.erase x) h2 fun y hy => by
      have hy' := hs y (List.mem_cons_of_mem _ hy)
      exact (List.mem_erase_of_ne (fun (e : y = x) => h1 (by rw [← e]; exact hy))).mpr hy'
    rw [List.length_erase_of_mem hx] at this
    have : 0 < m.length := List.length_pos_of_mem hx
    show l.length + 1 ≤ m.length
    omega
theorem tries_few {z : Str} {m : List Str} {n : Nat} (hn : n < 60) (h : ∀ i, i < n → nTry z i ∈ m) : n ≤ m.length := by
  have := sub_len ((List.range n).map (nTry z)) m ?_ ?_
  · simpa using this
  · refine List.nodup_iff_pairwise_ne.mpr (List.pairwise_map.mpr ?_)
    refine List.Pairwise.imp_of_mem (fun ha hb hab e => ?_) (List.nodup_iff_pairwise_ne.mp List.nodup_range)
    exact hab (nTry_inj (Nat.lt_trans (List.mem_range.mp ha) hn) (Nat.lt_trans (List.mem_range.mp hb) hn) e)
  · intro x hx
    obtain ⟨i, hi, rfl⟩ := List.mem_map.mp hx
    exact h i (List.mem_range.mp hi)
theorem nTry_nm {k : Nat} {z : Str} (h : Nm k z) {i : Nat} (hi : i < 60) : Nm (k + 2) (nTry z i) := by
  unfold nTry
  split
  · exact h.mono (by omega)
  · obtain ⟨h1, _, h3⟩ := nT_ok i hi
    exact h.app (fun c hc => of_decide_eq_true (List.all_eq_true.mp h1 c hc)) h3
theorem let26 : ∀ i, i < 26 → ∀ c, ("abcdefghijklmnopqrstuvwxyz0123456789" : Str).cps.toList[i]? = some c → c ∈ LETS.cps.toList := by
  intro i hi c e
  have h : ∀ j, j < 26 → ∃ d, LFS.cps.toList[j]? = some d ∧ d ∈ LETS.cps.toList := by
    have : (List.range 26).all (fun j => match LFS.cps.toList[j]? with | some d => decide (d ∈ LETS.cps.toList) | none => false) = true := by decide +kernel
    intro j hj
    have := List.all_eq_true.mp this j (List.mem_range.mpr hj)
    split at this
    · exact ⟨_, by assumption, of_decide_eq_true this⟩
    · cases this
  obtain ⟨d, e1, e2⟩ := h i hi
  rw [show LFS.cps.toList[i]? = some c from e] at e1
  cases e1; exact e2
theorem one_nm {c : Nat} (h : c ∈ LETS.cps.toList) : Nm 1 ⟨#[c]⟩ := ⟨Nat.le_refl _, Nat.le_refl _, ⟨c, [], rfl, h⟩, fun d hd => by
  have : d = c := by simpa using hd
  subst this
  rw [lfs_eq]; exact List.mem_append_left _ h⟩


abbrev sd (a b c : Int) : S := .L [.int a, .int b, .int c]
theorem r_digit {a b c n : Int} (h : Sd a b c) (hn : 0 < n) (hn2 : n < 1073741824) : ∃ v a' b' c', m_l_digit [sd a b c, .d (.int n)] = .ok (.d (.int v)) [sd a' b' c', .d (.int n)] ∧ 0 ≤ v ∧ v < n ∧ Sd a' b' c' := by
  obtain ⟨h1, h2, h3, h4, h5⟩ := h
  by_cases ha : 0 < a
  · refine ⟨a % n, a / n, b, c, ?_, Int.emod_nonneg _ (by omega), Int.emod_lt_of_pos _ hn, Int.ediv_nonneg h1 (by omega), h2, h3, h4, h5⟩
    unfold m_l_digit sd
    simp [fnM, endF_ret, endF_nx, endF_exc, endF_stuck, fin, okB, wn_un, wn_d, wn_L, wn_M, wn_T, wn_O, wn_X, dat_un, dat_d, dat_L, dat_M, dat_T, dat_O, dat_X, bc, b0, ifS, ret, retN, My.set, sto, stoM, drp, asg, asB, asT, notT, andT, orT, op1, op2, opn, pk, ex, kd, rd, mv, frz, toS, arc, ar0, resAll, res_sl, res_dt, Option.bind_some, ixF, ixS, lenF, intF, strF, cmpF, addF, subF, mulF, modF, fdivF, eqF, neF, deq, truD, argsS, argS, sls, backS, rsB, callf, put_nm, put_tp, put_tl, puts_nil, puts_cons, lsc, ls0, lstG, tupG, forS, putC, itD, itsOf, itN, rng1, mut1, mut0, appF, Rs.bind_ok, Rs.bind_exc, Rs.bind_stuck, Rs.ctl_ok, Rs.ctl_exc, Rs.ctl_stuck, Rs.opt_some, Rs.opt_none, Ctl.then_nx, Ctl.then_ret, Ctl.then_exc, Ctl.then_brk, Ctl.then_cnt, Ctl.then_stuck, L2.atI, L2.ixN, ha, hn, hn2]
  · have hb : -18446744073709551616 < b ∧ b < 18446744073709551616 := by omega
    refine ⟨((b * (b / 1009 + 69621) + c) % 2147483629 + 7) / 97 % n, a, (b * (b / 1009 + 69621) + c) % 2147483629 + 7, c, ?_, Int.emod_nonneg _ (by omega), Int.emod_lt_of_pos _ hn, h1, ?_, ?_, h4, h5⟩
    · unfold m_l_digit sd
      simp [fnM, endF_ret, endF_nx, endF_exc, endF_stuck, fin, okB, wn_un, wn_d, wn_L, wn_M, wn_T, wn_O, wn_X, dat_un, dat_d, dat_L, dat_M, dat_T, dat_O, dat_X, bc, b0, ifS, ret, retN, My.set, sto, stoM, drp, asg, asB, asT, notT, andT, orT, op1, op2, opn, pk, ex, kd, rd, mv, frz, toS, arc, ar0, resAll, res_sl, res_dt, Option.bind_some, ixF, ixS, lenF, intF, strF, cmpF, addF, subF, mulF, modF, fdivF, eqF, neF, deq, truD, argsS, argS, sls, backS, rsB, callf, put_nm, put_tp, put_tl, puts_nil, puts_cons, lsc, ls0, lstG, tupG, forS, putC, itD, itsOf, itN, rng1, mut1, mut0, appF, Rs.bind_ok, Rs.bind_exc, Rs.bind_stuck, Rs.ctl_ok, Rs.ctl_exc, Rs.ctl_stuck, Rs.opt_some, Rs.opt_none, Ctl.then_nx, Ctl.then_ret, Ctl.then_exc, Ctl.then_brk, Ctl.then_cnt, Ctl.then_stuck, L2.atI, L2.ixN, ha, hn, hn2, hb]
    · have := Int.emod_nonneg (b * (b / 1009 + 69621) + c) (show (2147483629 : Int) ≠ 0 by decide)
      omega
    · have := Int.emod_lt_of_pos (b * (b / 1009 + 69621) + c) (show (0 : Int) < 2147483629 by decide)
      omega
theorem r_state (n : Int) : ∃ a b c, m_l_state [.d (.int n)] = .ok (sd a b c) [.d (.int n)] ∧ Sd a b c := by
  obtain ⟨k, ek, hk0⟩ : ∃ k, absF [.int n] = some (sI k) ∧ 0 ≤ k := ⟨_, rfl, by split <;> omega⟩
  have h0 := Int.emod_nonneg k (show (2147483629 : Int) ≠ 0 by decide)
  have h1 := Int.emod_lt_of_pos k (show (0 : Int) < 2147483629 by decide)
  have h2 := Int.emod_nonneg k (show (2147483587 : Int) ≠ 0 by decide)
  have h3 := Int.emod_lt_of_pos k (show (0 : Int) < 2147483587 by decide)
  by_cases hk : (1000000000000000000 : Int) ≤ k
  · refine ⟨k, k % 2147483629 + 7, k % 2147483587, ?_, hk0, by omega, by omega, h2, by omega⟩
    unfold m_l_state sd
    simp [fnM, endF_ret, endF_nx, endF_exc, endF_stuck, fin, okB, wn_un, wn_d, wn_L, wn_M, wn_T, wn_O, wn_X, dat_un, dat_d, dat_L, dat_M, dat_T, dat_O, dat_X, bc, b0, ifS, ret, retN, My.set, sto, stoM, drp, asg, asB, asT, notT, andT, orT, op1, op2, opn, pk, ex, kd, rd, mv, frz, toS, arc, ar0, resAll, res_sl, res_dt, Option.bind_some, ixF, ixS, lenF, intF, strF, cmpF, addF, subF, mulF, modF, fdivF, eqF, neF, deq, truD, argsS, argS, sls, backS, rsB, callf, put_nm, put_tp, put_tl, puts_nil, puts_cons, lsc, ls0, lstG, tupG, forS, putC, itD, itsOf, itN, rng1, mut1, mut0, appF, Rs.bind_ok, Rs.bind_exc, Rs.bind_stuck, Rs.ctl_ok, Rs.ctl_exc, Rs.ctl_stuck, Rs.opt_some, Rs.opt_none, Ctl.then_nx, Ctl.then_ret, Ctl.then_exc, Ctl.then_brk, Ctl.then_cnt, Ctl.then_stuck, L2.atI, L2.ixN, powF, geF, cmpF, ek, hk]
  · refine ⟨0, k % 2147483629 + 7, k % 2147483587, ?_, Int.le_refl _, by omega, by omega, h2, by omega⟩
    unfold m_l_state sd
    simp [fnM, endF_ret, endF_nx, endF_exc, endF_stuck, fin, okB, wn_un, wn_d, wn_L, wn_M, wn_T, wn_O, wn_X, dat_un, dat_d, dat_L, dat_M, dat_T, dat_O, dat_X, bc, b0, ifS, ret, retN, My.set, sto, stoM, drp, asg, asB, asT, notT, andT, orT, op1, op2, opn, pk, ex, kd, rd, mv, frz, toS, arc, ar0, resAll, res_sl, res_dt, Option.bind_some, ixF, ixS, lenF, intF, strF, cmpF, addF, subF, mulF, modF, fdivF, eqF, neF, deq, truD, argsS, argS, sls, backS, rsB, callf, put_nm, put_tp, put_tl, puts_nil, puts_cons, lsc, ls0, lstG, tupG, forS, putC, itD, itsOf, itN, rng1, mut1, mut0, appF, Rs.bind_ok, Rs.bind_exc, Rs.bind_stuck, Rs.ctl_ok, Rs.ctl_exc, Rs.ctl_stuck, Rs.opt_some, Rs.opt_none, Ctl.then_nx, Ctl.then_ret, Ctl.then_exc, Ctl.then_brk, Ctl.then_cnt, Ctl.then_stuck, L2.atI, L2.ixN, powF, geF, cmpF, ek, hk]
theorem inV_s {z : Str} : ∀ {zs : List Str}, inV (.str z) ((zs.map D.str).map toV) = decide (z ∈ zs)
  | [] => by simp [inV]
  | y :: zs => by
    have ih := inV_s (z := z) (zs := zs)
    unfold inV at ih ⊢
    rw [List.map_cons, List.map_cons, List.any_cons, ih]
    show (y == z || _) = _
    by_cases e : y = z
    · subst e; simp
    · simp [e, Ne.symm e]
theorem flat_ss : ∀ {zs : List Str}, (zs.map D.str).all flatD = true
  | [] => rfl
  | _ :: zs => by rw [List.map_cons, List.all_cons, flat_ss]; rfl
theorem wordsD : ∀ i : Nat, i < 10 → ∃ z, ([D.str "write", D.str "wait", D.str "else", D.str "or", D.str "lead", D.str "with", D.str "holds", D.str "any", D.str "skip", D.str "mark"] : List D)[i]? = some (.str z) ∧ Nm 5 z := by
  have key : ([("write" : Str), "wait", "else", "or", "lead", "with", "holds", "any", "skip", "mark"]).all (fun z => decide (1 ≤ z.length) && (decide (z.length ≤ 5) && ((match z.cps.toList with | c :: _ => decide (c ∈ LETS.cps.toList) | [] => false) && z.cps.toList.all (fun c => decide (c ∈ LFS.cps.toList))))) = true := by decide +kernel
  intro i hi
  have e : ([D.str "write", D.str "wait", D.str "else", D.str "or", D.str "lead", D.str "with", D.str "holds", D.str "any", D.str "skip", D.str "mark"] : List D) = ([("write" : Str), "wait", "else", "or", "lead", "with", "holds", "any", "skip", "mark"]).map D.str := rfl
  rw [e, List.getElem?_map]
  obtain ⟨z, ez⟩ : ∃ z, ([("write" : Str), "wait", "else", "or", "lead", "with", "holds", "any", "skip", "mark"])[i]? = some z := ⟨_, List.getElem?_eq_getElem hi⟩
  have h := List.all_eq_true.mp key z (List.mem_of_getElem? ez)
  rw [ez]
  simp only [Bool.and_eq_true, decide_eq_true_eq] at h
  obtain ⟨h1, h2, h3, h4⟩ := h
  refine ⟨z, rfl, h1, h2, ?_, fun c hc => of_decide_eq_true (List.all_eq_true.mp h4 c hc)⟩
  match q : z.cps.toList, h3 with
  | c :: r, h3 => exact ⟨c, r, rfl, of_decide_eq_true (by simpa [q] using h3)⟩
theorem sig36 {v : Int} (h0 : 0 ≤ v) (h1 : v < 36) : ∃ c, L2.atI LFS.cps.toList v = some c ∧ c ∈ LFS.cps.toList ∧ (v < 26 → c ∈ LETS.cps.toList) := by
  obtain ⟨c, e1, e2⟩ := atI_nn (xs := LFS.cps.toList) h0 (by rw [show LFS.cps.toList.length = 36 from len36]; exact h1)
  exact ⟨c, e1, List.mem_of_getElem? e2, fun h => let26 v.toNat (by omega) c e2⟩
def muW7 (ρ : En) : Nat := match ρ[7]? with
  | some (S.d (D.int n)) => 60 - n.toNat
  | _ => 0
theorem memS {z : Str} {zs : List Str} : inF (.str z) (.lst (zs.map .str)) = some (sB (decide (z ∈ zs))) := by
  unfold inF memF
  simp only [flatD, flat_ss, Bool.true_and, if_true, toV]
  rw [inV_s]; rfl
theorem r_name {a b c : Int} (h : Sd a b c) {zs : List Str} (hz : zs.length ≤ 50) : ∃ s ss', m_l_name [sd a b c, .L (zs.map .str)] = .ok s ss' ∧ ∃ z a' b' c', s = .d (.str z) ∧ ss' = [sd a' b' c', .L (zs.map .str)] ∧ Nm 7 z ∧ z ∉ zs ∧ Sd a' b' c' := by
  obtain ⟨v1, a1, b1, c1, e1, p1, q1, s1⟩ := r_digit h (n := 7) (by decide) (by decide)
  obtain ⟨v2, a2, b2, c2, e2, p2, q2, s2⟩ := r_digit s1 (n := 26) (by decide) (by decide)
  obtain ⟨v3, a3, b3, c3, e3, p3, q3, s3⟩ := r_digit s2 (n := 4) (by decide) (by decide)
  obtain ⟨k2, f2, g2, l2⟩ := sig36 p2 (by omega)
  have l36 : (LFS).length = 36 := len36
  have hk : Nm 1 ⟨#[k2]⟩ := one_nm (l2 q2)
  have fLF : ("abcdefghijklmnopqrstuvwxyz0123456789" : Str) = LFS := rfl
  unfold m_l_name
  rw [fLF]
  refine rt_fn rfl ?_
  refine rt_bc [sd a b c, .L (zs.map .str), .d (.str LFS), .un, .un, .un, .un, .un] (by simp [fnM, endF_ret, endF_nx, endF_exc, endF_stuck, fin, okB, wn_un, wn_d, wn_L, wn_M, wn_T, wn_O, wn_X, dat_un, dat_d, dat_L, dat_M, dat_T, dat_O, dat_X, bc, b0, ifS, ret, retN, My.set, sto, stoM, drp, asg, asB, asT, notT, andT, orT, op1, op2, opn, pk, ex, kd, rd, mv, frz, toS, arc, ar0, resAll, res_sl, res_dt, Option.bind_some, ixF, ixS, lenF, intF, strF, cmpF, addF, subF, mulF, modF, fdivF, eqF, neF, deq, truD, argsS, argS, sls, backS, rsB, callf, put_nm, put_tp, put_tl, puts_nil, puts_cons, lsc, ls0, lstG, tupG, forS, putC, itD, itsOf, itN, rng1, mut1, mut0, appF, Rs.bind_ok, Rs.bind_exc, Rs.bind_stuck, Rs.ctl_ok, Rs.ctl_exc, Rs.ctl_stuck, Rs.opt_some, Rs.opt_none, Ctl.then_nx, Ctl.then_ret, Ctl.then_exc, Ctl.then_brk, Ctl.then_cnt, Ctl.then_stuck]) ?_
  refine rt_bc [sd a1 b1 c1, .L (zs.map .str), .d (.str LFS), .d (.int v1), .un, .un, .un, .un] (by simp [fnM, endF_ret, endF_nx, endF_exc, endF_stuck, fin, okB, wn_un, wn_d, wn_L, wn_M, wn_T, wn_O, wn_X, dat_un, dat_d, dat_L, dat_M, dat_T, dat_O, dat_X, bc, b0, ifS, ret, retN, My.set, sto, stoM, drp, asg, asB, asT, notT, andT, orT, op1, op2, opn, pk, ex, kd, rd, mv, frz, toS, arc, ar0, resAll, res_sl, res_dt, Option.bind_some, ixF, ixS, lenF, intF, strF, cmpF, addF, subF, mulF, modF, fdivF, eqF, neF, deq, truD, argsS, argS, sls, backS, rsB, callf, put_nm, put_tp, put_tl, puts_nil, puts_cons, lsc, ls0, lstG, tupG, forS, putC, itD, itsOf, itN, rng1, mut1, mut0, appF, Rs.bind_ok, Rs.bind_exc, Rs.bind_stuck, Rs.ctl_ok, Rs.ctl_exc, Rs.ctl_stuck, Rs.opt_some, Rs.opt_none, Ctl.then_nx, Ctl.then_ret, Ctl.then_exc, Ctl.then_brk, Ctl.then_cnt, Ctl.then_stuck, e1]) ?_
  refine rt_bc [sd a2 b2 c2, .L (zs.map .str), .d (.str LFS), .d (.int v1), .d (.str ⟨#[k2]⟩), .un, .un, .un] (by simp [fnM, endF_ret, endF_nx, endF_exc, endF_stuck, fin, okB, wn_un, wn_d, wn_L, wn_M, wn_T, wn_O, wn_X, dat_un, dat_d, dat_L, dat_M, dat_T, dat_O, dat_X, bc, b0, ifS, ret, retN, My.set, sto, stoM, drp, asg, asB, asT, notT, andT, orT, op1, op2, opn, pk, ex, kd, rd, mv, frz, toS, arc, ar0, resAll, res_sl, res_dt, Option.bind_some, ixF, ixS, lenF, intF, strF, cmpF, addF, subF, mulF, modF, fdivF, eqF, neF, deq, truD, argsS, argS, sls, backS, rsB, callf, put_nm, put_tp, put_tl, puts_nil, puts_cons, lsc, ls0, lstG, tupG, forS, putC, itD, itsOf, itN, rng1, mut1, mut0, appF, Rs.bind_ok, Rs.bind_exc, Rs.bind_stuck, Rs.ctl_ok, Rs.ctl_exc, Rs.ctl_stuck, Rs.opt_some, Rs.opt_none, Ctl.then_nx, Ctl.then_ret, Ctl.then_exc, Ctl.then_brk, Ctl.then_cnt, Ctl.then_stuck, e2, f2, l36]) ?_
  refine rt_for (rgI 0 v3.toNat) (fun i ρ => ∃ z a b c x, ρ = [sd a b c, .L (zs.map .str), .d (.str LFS), .d (.int v1), .d (.str z), x, .un, .un] ∧ Nm (1 + i) z ∧ Sd a b c)
    (ρ1 := [sd a3 b3 c3, .L (zs.map .str), .d (.str LFS), .d (.int v1), .d (.str ⟨#[k2]⟩), .un, .un, .un]) (by
      have h1 : -(2 ^ 62) ≤ v3 := by omega
      have h2 : v3 < 2 ^ 62 := by omega
      simp at h1 h2
      simp [fnM, endF_ret, endF_nx, endF_exc, endF_stuck, fin, okB, wn_un, wn_d, wn_L, wn_M, wn_T, wn_O, wn_X, dat_un, dat_d, dat_L, dat_M, dat_T, dat_O, dat_X, bc, b0, ifS, ret, retN, My.set, sto, stoM, drp, asg, asB, asT, notT, andT, orT, op1, op2, opn, pk, ex, kd, rd, mv, frz, toS, arc, ar0, resAll, res_sl, res_dt, Option.bind_some, ixF, ixS, lenF, intF, strF, cmpF, addF, subF, mulF, modF, fdivF, eqF, neF, deq, truD, argsS, argS, sls, backS, rsB, callf, put_nm, put_tp, put_tl, puts_nil, puts_cons, lsc, ls0, lstG, tupG, forS, putC, itD, itsOf, itN, rng1, mut1, mut0, appF, Rs.bind_ok, Rs.bind_exc, Rs.bind_stuck, Rs.ctl_ok, Rs.ctl_exc, Rs.ctl_stuck, Rs.opt_some, Rs.opt_none, Ctl.then_nx, Ctl.then_ret, Ctl.then_exc, Ctl.then_brk, Ctl.then_cnt, Ctl.then_stuck, e3, h1, h2]) ⟨_, _, _, _, _, rfl, hk, s3⟩ (fun i x ρ hx hi => ?_) fun ρ' hi => ?_
  · obtain ⟨z, a, b, c, x5, rfl, nz, sz⟩ := hi
    obtain ⟨v5, a5, b5, c5, e5, p5, q5, s5⟩ := r_digit sz (n := 36) (by decide) (by decide)
    obtain ⟨k5, f5, g5, _⟩ := sig36 p5 q5
    have il := (rgI_get hx).2
    have zl := nz.2.1
    have ll : z.length + (⟨#[k5]⟩ : Str).length ≤ 100000 := by show z.length + 1 ≤ _; omega
    refine ⟨_, [sd a5 b5 c5, .L (zs.map .str), .d (.str LFS), .d (.int v1), .d (.str (z ++ ⟨#[k5]⟩)), .d x, .un, .un], rfl, .inl (by simp [fnM, endF_ret, endF_nx, endF_exc, endF_stuck, fin, okB, wn_un, wn_d, wn_L, wn_M, wn_T, wn_O, wn_X, dat_un, dat_d, dat_L, dat_M, dat_T, dat_O, dat_X, bc, b0, ifS, ret, retN, My.set, sto, stoM, drp, asg, asB, asT, notT, andT, orT, op1, op2, opn, pk, ex, kd, rd, mv, frz, toS, arc, ar0, resAll, res_sl, res_dt, Option.bind_some, ixF, ixS, lenF, intF, strF, cmpF, addF, subF, mulF, modF, fdivF, eqF, neF, deq, truD, argsS, argS, sls, backS, rsB, callf, put_nm, put_tp, put_tl, puts_nil, puts_cons, lsc, ls0, lstG, tupG, forS, putC, itD, itsOf, itN, rng1, mut1, mut0, appF, Rs.bind_ok, Rs.bind_exc, Rs.bind_stuck, Rs.ctl_ok, Rs.ctl_exc, Rs.ctl_stuck, Rs.opt_some, Rs.opt_none, Ctl.then_nx, Ctl.then_ret, Ctl.then_exc, Ctl.then_brk, Ctl.then_cnt, Ctl.then_stuck, e5, f5, l36, ll]), z ++ ⟨#[k5]⟩, a5, b5, c5, .d x, rfl, ?_, s5⟩
    rw [show 1 + (i + 1) = 1 + i + 1 by omega]
    refine nz.app (l := 1) (fun d hd => ?_) (Nat.le_refl _)
    have : d = k5 := by simpa using hd
    subst this; exact g5
  obtain ⟨z4, a4, b4, c4, x4, rfl, n4, s4⟩ := hi
  rw [rgI_len] at n4
  have n4 : Nm 5 z4 := n4.mono (by omega)
  -- the rest, whatever the stem
  have rest : ∀ z6 a6 b6 c6, Nm 5 z6 → Sd a6 b6 c6 → Rt (((bc (My.set 6 (toS (rd 4)))
      (bc (My.set 7 (toS (kd (.int 0))))
      (bc (whL (asB (op2 inF (pk 6) (pk 1))) (bc (My.set 7 (op2 addF (pk 7) (ex (kd (.int 1)))))
      (My.set 6 (op2 addF (pk 4) (ex (frz (opn strF (arc (pk 7) ar0))))))) 1000000)
      (ret (mv 6)))))) [sd a6 b6 c6, .L (zs.map .str), .d (.str LFS), .d (.int v1), .d (.str z6), x4, .un, .un]) (fun s ρ' => ∃ z a' b' c', s = .d (.str z) ∧ My.fin [sd a b c, .L (zs.map .str)] ρ' = [sd a' b' c', .L (zs.map .str)] ∧ Nm 7 z ∧ z ∉ zs ∧ Sd a' b' c') := by
    intro z6 a6 b6 c6 n6 s6
    refine rt_bc [sd a6 b6 c6, .L (zs.map .str), .d (.str LFS), .d (.int v1), .d (.str z6), x4, .d (.str z6), .un] (by simp [fnM, endF_ret, endF_nx, endF_exc, endF_stuck, fin, okB, wn_un, wn_d, wn_L, wn_M, wn_T, wn_O, wn_X, dat_un, dat_d, dat_L, dat_M, dat_T, dat_O, dat_X, bc, b0, ifS, ret, retN, My.set, sto, stoM, drp, asg, asB, asT, notT, andT, orT, op1, op2, opn, pk, ex, kd, rd, mv, frz, toS, arc, ar0, resAll, res_sl, res_dt, Option.bind_some, ixF, ixS, lenF, intF, strF, cmpF, addF, subF, mulF, modF, fdivF, eqF, neF, deq, truD, argsS, argS, sls, backS, rsB, callf, put_nm, put_tp, put_tl, puts_nil, puts_cons, lsc, ls0, lstG, tupG, forS, putC, itD, itsOf, itN, rng1, mut1, mut0, appF, Rs.bind_ok, Rs.bind_exc, Rs.bind_stuck, Rs.ctl_ok, Rs.ctl_exc, Rs.ctl_stuck, Rs.opt_some, Rs.opt_none, Ctl.then_nx, Ctl.then_ret, Ctl.then_exc, Ctl.then_brk, Ctl.then_cnt, Ctl.then_stuck]) ?_
    refine rt_bc [sd a6 b6 c6, .L (zs.map .str), .d (.str LFS), .d (.int v1), .d (.str z6), x4, .d (.str z6), .d (.int 0)] (by simp [fnM, endF_ret, endF_nx, endF_exc, endF_stuck, fin, okB, wn_un, wn_d, wn_L, wn_M, wn_T, wn_O, wn_X, dat_un, dat_d, dat_L, dat_M, dat_T, dat_O, dat_X, bc, b0, ifS, ret, retN, My.set, sto, stoM, drp, asg, asB, asT, notT, andT, orT, op1, op2, opn, pk, ex, kd, rd, mv, frz, toS, arc, ar0, resAll, res_sl, res_dt, Option.bind_some, ixF, ixS, lenF, intF, strF, cmpF, addF, subF, mulF, modF, fdivF, eqF, neF, deq, truD, argsS, argS, sls, backS, rsB, callf, put_nm, put_tp, put_tl, puts_nil, puts_cons, lsc, ls0, lstG, tupG, forS, putC, itD, itsOf, itN, rng1, mut1, mut0, appF, Rs.bind_ok, Rs.bind_exc, Rs.bind_stuck, Rs.ctl_ok, Rs.ctl_exc, Rs.ctl_stuck, Rs.opt_some, Rs.opt_none, Ctl.then_nx, Ctl.then_ret, Ctl.then_exc, Ctl.then_brk, Ctl.then_cnt, Ctl.then_stuck]) ?_
    refine rt_while (fun ρ => ∃ n : Nat, ρ = [sd a6 b6 c6, .L (zs.map .str), .d (.str LFS), .d (.int v1), .d (.str z6), x4, .d (.str (nTry z6 n)), .d (.int n)] ∧ n ≤ zs.length ∧ ∀ i, i < n → nTry z6 i ∈ zs)
      (fun ρ => ∃ n : Nat, ρ = [sd a6 b6 c6, .L (zs.map .str), .d (.str LFS), .d (.int v1), .d (.str z6), x4, .d (.str (nTry z6 n)), .d (.int n)] ∧ n ≤ zs.length ∧ nTry z6 n ∉ zs)
      muW7 ⟨0, rfl, Nat.zero_le _, fun i hi => absurd hi (Nat.not_lt_zero i)⟩ (show 60 - 0 < 1000000 by decide) ?_ ?_
    · rintro ρ ⟨n, rfl, hn, hin⟩
      refine ⟨decide (nTry z6 n ∈ zs), _, by simp [fnM, endF_ret, endF_nx, endF_exc, endF_stuck, fin, okB, wn_un, wn_d, wn_L, wn_M, wn_T, wn_O, wn_X, dat_un, dat_d, dat_L, dat_M, dat_T, dat_O, dat_X, bc, b0, ifS, ret, retN, My.set, sto, stoM, drp, asg, asB, asT, notT, andT, orT, op1, op2, opn, pk, ex, kd, rd, mv, frz, toS, arc, ar0, resAll, res_sl, res_dt, Option.bind_some, ixF, ixS, lenF, intF, strF, cmpF, addF, subF, mulF, modF, fdivF, eqF, neF, deq, truD, argsS, argS, sls, backS, rsB, callf, put_nm, put_tp, put_tl, puts_nil, puts_cons, lsc, ls0, lstG, tupG, forS, putC, itD, itsOf, itN, rng1, mut1, mut0, appF, Rs.bind_ok, Rs.bind_exc, Rs.bind_stuck, Rs.ctl_ok, Rs.ctl_exc, Rs.ctl_stuck, Rs.opt_some, Rs.opt_none, Ctl.then_nx, Ctl.then_ret, Ctl.then_exc, Ctl.then_brk, Ctl.then_cnt, Ctl.then_stuck, memS], fun hf => ⟨n, rfl, hn, of_decide_eq_false hf⟩, fun ht => ?_⟩
      have hin' : ∀ i, i < n + 1 → nTry z6 i ∈ zs := fun i hi => by
        by_cases e : i = n
        · subst e; exact of_decide_eq_true ht
        · exact hin i (by omega)
      have hn' := tries_few (by omega) hin'
      have h60 : n + 1 < 60 := by omega
      have t2 := (nT_ok (n + 1) h60).2.2
      have z5 := n6.2.1
      have lg : ((n : Int) + 1).natAbs.log2 < 1920 := Nat.lt_of_le_of_lt (Nat.log2_le_self _) (by omega)
      refine ⟨[sd a6 b6 c6, .L (zs.map .str), .d (.str LFS), .d (.int v1), .d (.str z6), x4, .d (.str (nTry z6 (n + 1))), .d (.int (n + 1 : Nat))], .inl ?_, ⟨n + 1, rfl, hn', hin'⟩, ?_⟩
      · have e9 : (Str.ofString (toString ((n : Int) + 1))) = nT (n + 1) := by unfold nT; rw [show ((n + 1 : Nat) : Int) = (n : Int) + 1 by omega]
        have e8 : nTry z6 (n + 1) = z6 ++ nT (n + 1) := by unfold nTry; rw [if_neg (by omega)]
        have ll : z6.length + (nT (n + 1)).length ≤ 100000 := by omega
        have e7 : strF [.int ((n : Int) + 1)] = some (.d (.str (nT (n + 1)))) := by
          unfold strF
          simp only
          rw [if_pos lg]
          exact congrArg (fun t => some (S.d (D.str t))) e9
        simp [fnM, endF_ret, endF_nx, endF_exc, endF_stuck, fin, okB, wn_un, wn_d, wn_L, wn_M, wn_T, wn_O, wn_X, dat_un, dat_d, dat_L, dat_M, dat_T, dat_O, dat_X, bc, b0, ifS, ret, retN, My.set, sto, stoM, drp, asg, asB, asT, notT, andT, orT, op1, op2, opn, pk, ex, kd, rd, mv, frz, toS, arc, ar0, resAll, res_sl, res_dt, Option.bind_some, ixF, ixS, lenF, intF, cmpF, addF, subF, mulF, modF, fdivF, eqF, neF, deq, truD, argsS, argS, sls, backS, rsB, callf, put_nm, put_tp, put_tl, puts_nil, puts_cons, lsc, ls0, lstG, tupG, forS, putC, itD, itsOf, itN, rng1, mut1, mut0, appF, Rs.bind_ok, Rs.bind_exc, Rs.bind_stuck, Rs.ctl_ok, Rs.ctl_exc, Rs.ctl_stuck, Rs.opt_some, Rs.opt_none, Ctl.then_nx, Ctl.then_ret, Ctl.then_exc, Ctl.then_brk, Ctl.then_cnt, Ctl.then_stuck, e7, e8, ll]
      · show 60 - (n + 1) < 60 - n
        omega
    · rintro ρ' ⟨n, rfl, hn, hno⟩
      exact rt_ret (s := .d (.str (nTry z6 n))) (ρ1 := [sd a6 b6 c6, .L (zs.map .str), .d (.str LFS), .d (.int v1), .d (.str z6), x4, .d (.str (nTry z6 n)), .d (.int n)]) (by simp [fnM, endF_ret, endF_nx, endF_exc, endF_stuck, fin, okB, wn_un, wn_d, wn_L, wn_M, wn_T, wn_O, wn_X, dat_un, dat_d, dat_L, dat_M, dat_T, dat_O, dat_X, bc, b0, ifS, ret, retN, My.set, sto, stoM, drp, asg, asB, asT, notT, andT, orT, op1, op2, opn, pk, ex, kd, rd, mv, frz, toS, arc, ar0, resAll, res_sl, res_dt, Option.bind_some, ixF, ixS, lenF, intF, strF, cmpF, addF, subF, mulF, modF, fdivF, eqF, neF, deq, truD, argsS, argS, sls, backS, rsB, callf, put_nm, put_tp, put_tl, puts_nil, puts_cons, lsc, ls0, lstG, tupG, forS, putC, itD, itsOf, itN, rng1, mut1, mut0, appF, Rs.bind_ok, Rs.bind_exc, Rs.bind_stuck, Rs.ctl_ok, Rs.ctl_exc, Rs.ctl_stuck, Rs.opt_some, Rs.opt_none, Ctl.then_nx, Ctl.then_ret, Ctl.then_exc, Ctl.then_brk, Ctl.then_cnt, Ctl.then_stuck]) ⟨_, _, _, _, rfl, by simp [My.fin, wn_un, wn_d, wn_L, wn_M, wn_T, wn_O, wn_X], nTry_nm n6 (by omega), hno, s6⟩
  refine rt_if (decide (v1 = 6)) (ρ1 := [sd a4 b4 c4, .L (zs.map .str), .d (.str LFS), .d (.int v1), .d (.str z4), x4, .un, .un]) (by simp [fnM, endF_ret, endF_nx, endF_exc, endF_stuck, fin, okB, wn_un, wn_d, wn_L, wn_M, wn_T, wn_O, wn_X, dat_un, dat_d, dat_L, dat_M, dat_T, dat_O, dat_X, bc, b0, ifS, ret, retN, My.set, sto, stoM, drp, asg, asB, asT, notT, andT, orT, op1, op2, opn, pk, ex, kd, rd, mv, frz, toS, arc, ar0, resAll, res_sl, res_dt, Option.bind_some, ixF, ixS, lenF, intF, strF, cmpF, addF, subF, mulF, modF, fdivF, eqF, neF, deq, truD, argsS, argS, sls, backS, rsB, callf, put_nm, put_tp, put_tl, puts_nil, puts_cons, lsc, ls0, lstG, tupG, forS, putC, itD, itsOf, itN, rng1, mut1, mut0, appF, Rs.bind_ok, Rs.bind_exc, Rs.bind_stuck, Rs.ctl_ok, Rs.ctl_exc, Rs.ctl_stuck, Rs.opt_some, Rs.opt_none, Ctl.then_nx, Ctl.then_ret, Ctl.then_exc, Ctl.then_brk, Ctl.then_cnt, Ctl.then_stuck]) (fun h6 => ?_) fun h6 => ?_
  · obtain ⟨v7, a7, b7, c7, e7, p7, q7, s7⟩ := r_digit s4 (n := 10) (by decide) (by decide)
    obtain ⟨z7, e8, n7⟩ := wordsD v7.toNat (by omega)
    obtain ⟨y, e9, e10⟩ := atI_nn (xs := ([D.str "write", D.str "wait", D.str "else", D.str "or", D.str "lead", D.str "with", D.str "holds", D.str "any", D.str "skip", D.str "mark"] : List D)) p7 (by simpa using q7)
    rw [e8] at e10; cases e10
    refine rt_bc [sd a7 b7 c7, .L (zs.map .str), .d (.str LFS), .d (.int v1), .d (.str z7), x4, .un, .un] (by simp [fnM, endF_ret, endF_nx, endF_exc, endF_stuck, fin, okB, wn_un, wn_d, wn_L, wn_M, wn_T, wn_O, wn_X, dat_un, dat_d, dat_L, dat_M, dat_T, dat_O, dat_X, bc, b0, ifS, ret, retN, My.set, sto, stoM, drp, asg, asB, asT, notT, andT, orT, op1, op2, opn, pk, ex, kd, rd, mv, frz, toS, arc, ar0, resAll, res_sl, res_dt, Option.bind_some, ixF, ixS, lenF, intF, strF, cmpF, addF, subF, mulF, modF, fdivF, eqF, neF, deq, truD, argsS, argS, sls, backS, rsB, callf, put_nm, put_tp, put_tl, puts_nil, puts_cons, lsc, ls0, lstG, tupG, forS, putC, itD, itsOf, itN, rng1, mut1, mut0, appF, Rs.bind_ok, Rs.bind_exc, Rs.bind_stuck, Rs.ctl_ok, Rs.ctl_exc, Rs.ctl_stuck, Rs.opt_some, Rs.opt_none, Ctl.then_nx, Ctl.then_ret, Ctl.then_exc, Ctl.then_brk, Ctl.then_cnt, Ctl.then_stuck, e7, e9]) ?_
    exact rest _ _ _ _ n7 s7
  · exact rt_b0 (rest _ _ _ _ n4 s4)
def Nms (k : Nat) (zs : List Str) : Prop := (∀ z ∈ zs, Nm k z) ∧ zs.Nodup
theorem Nms.snoc {k : Nat} {zs : List Str} {z : Str} (h : Nms k zs) (hz : Nm k z) (hn : z ∉ zs) : Nms k (zs ++ [z]) :=
  ⟨fun y hy => by rcases List.mem_append.mp hy with h1 | h1
                  · exact h.1 y h1
                  · rw [List.mem_singleton.mp h1]; exact hz,
   List.nodup_append.mpr ⟨h.2, by simp, fun a ha b hb => by rw [List.mem_singleton.mp hb]; exact fun e => hn (e ▸ ha)⟩⟩
theorem r_names {a b c m : Int} (h : Sd a b c) (h0 : 0 ≤ m) (h1 : m ≤ 50) : ∃ s ss', m_l_names [sd a b c, .d (.int m)] = .ok s ss' ∧ ∃ zs a' b' c', s = .L (zs.map .str) ∧ ss' = [sd a' b' c', .d (.int m)] ∧ zs.length = m.toNat ∧ Nms 7 zs ∧ Sd a' b' c' := by
  unfold m_l_names
  refine rt_fn rfl ?_
  refine rt_bc [sd a b c, .d (.int m), .L [], .un] (by simp [fnM, endF_ret, endF_nx, endF_exc, endF_stuck, fin, okB, wn_un, wn_d, wn_L, wn_M, wn_T, wn_O, wn_X, dat_un, dat_d, dat_L, dat_M, dat_T, dat_O, dat_X, bc, b0, ifS, ret, retN, My.set, sto, stoM, drp, asg, asB, asT, notT, andT, orT, op1, op2, opn, pk, ex, kd, rd, mv, frz, toS, arc, ar0, resAll, res_sl, res_dt, Option.bind_some, ixF, ixS, lenF, intF, strF, cmpF, addF, subF, mulF, modF, fdivF, eqF, neF, deq, truD, argsS, argS, sls, backS, rsB, callf, put_nm, put_tp, put_tl, puts_nil, puts_cons, lsc, ls0, lstG, tupG, forS, putC, itD, itsOf, itN, rng1, mut1, mut0, appF, Rs.bind_ok, Rs.bind_exc, Rs.bind_stuck, Rs.ctl_ok, Rs.ctl_exc, Rs.ctl_stuck, Rs.opt_some, Rs.opt_none, Ctl.then_nx, Ctl.then_ret, Ctl.then_exc, Ctl.then_brk, Ctl.then_cnt, Ctl.then_stuck]) ?_
  refine rt_for (rgI 0 m.toNat) (fun i ρ => ∃ zs a b c x, ρ = [sd a b c, .d (.int m), .L (zs.map .str), x] ∧ zs.length = i ∧ Nms 7 zs ∧ Sd a b c)
    (ρ1 := [sd a b c, .d (.int m), .L [], .un]) (by
      have h1 : -(2 ^ 62) ≤ m := by omega
      have h2 : m < 2 ^ 62 := by omega
      simp at h1 h2
      simp [fnM, endF_ret, endF_nx, endF_exc, endF_stuck, fin, okB, wn_un, wn_d, wn_L, wn_M, wn_T, wn_O, wn_X, dat_un, dat_d, dat_L, dat_M, dat_T, dat_O, dat_X, bc, b0, ifS, ret, retN, My.set, sto, stoM, drp, asg, asB, asT, notT, andT, orT, op1, op2, opn, pk, ex, kd, rd, mv, frz, toS, arc, ar0, resAll, res_sl, res_dt, Option.bind_some, ixF, ixS, lenF, intF, strF, cmpF, addF, subF, mulF, modF, fdivF, eqF, neF, deq, truD, argsS, argS, sls, backS, rsB, callf, put_nm, put_tp, put_tl, puts_nil, puts_cons, lsc, ls0, lstG, tupG, forS, putC, itD, itsOf, itN, rng1, mut1, mut0, appF, Rs.bind_ok, Rs.bind_exc, Rs.bind_stuck, Rs.ctl_ok, Rs.ctl_exc, Rs.ctl_stuck, Rs.opt_some, Rs.opt_none, Ctl.then_nx, Ctl.then_ret, Ctl.then_exc, Ctl.then_brk, Ctl.then_cnt, Ctl.then_stuck, h1, h2]) ⟨[], _, _, _, _, rfl, rfl, ⟨(fun z hz => by cases hz), List.nodup_nil⟩, h⟩ (fun i x ρ hx hi => ?_) fun ρ' hi => ?_
  · obtain ⟨zs, a, b, c, x5, rfl, lz, nz, sz⟩ := hi
    have il := (rgI_get hx).2
    obtain ⟨s, ss', e, z, a', b', c', rfl, rfl, n7, hn, s7⟩ := r_name sz (zs := zs) (by omega)
    have ll : zs.length < 100000 := by omega
    refine ⟨_, [sd a' b' c', .d (.int m), .L ((zs ++ [z]).map .str), .d x], rfl, .inl (by simp [fnM, endF_ret, endF_nx, endF_exc, endF_stuck, fin, okB, wn_un, wn_d, wn_L, wn_M, wn_T, wn_O, wn_X, dat_un, dat_d, dat_L, dat_M, dat_T, dat_O, dat_X, bc, b0, ifS, ret, retN, My.set, sto, stoM, drp, asg, asB, asT, notT, andT, orT, op1, op2, opn, pk, ex, kd, rd, mv, frz, toS, arc, ar0, resAll, res_sl, res_dt, Option.bind_some, ixF, ixS, lenF, intF, strF, cmpF, addF, subF, mulF, modF, fdivF, eqF, neF, deq, truD, argsS, argS, sls, backS, rsB, callf, put_nm, put_tp, put_tl, puts_nil, puts_cons, lsc, ls0, lstG, tupG, forS, putC, itD, itsOf, itN, rng1, mut1, mut0, appF, Rs.bind_ok, Rs.bind_exc, Rs.bind_stuck, Rs.ctl_ok, Rs.ctl_exc, Rs.ctl_stuck, Rs.opt_some, Rs.opt_none, Ctl.then_nx, Ctl.then_ret, Ctl.then_exc, Ctl.then_brk, Ctl.then_cnt, Ctl.then_stuck, e, ll]), _, _, _, _, _, rfl, by simp [lz], nz.snoc n7 hn, s7⟩
  obtain ⟨zs, a', b', c', x4, rfl, l4, n4, s4⟩ := hi
  exact rt_ret (s := .L (zs.map .str)) (ρ1 := [sd a' b' c', .d (.int m), .un, x4]) (by simp [fnM, endF_ret, endF_nx, endF_exc, endF_stuck, fin, okB, wn_un, wn_d, wn_L, wn_M, wn_T, wn_O, wn_X, dat_un, dat_d, dat_L, dat_M, dat_T, dat_O, dat_X, bc, b0, ifS, ret, retN, My.set, sto, stoM, drp, asg, asB, asT, notT, andT, orT, op1, op2, opn, pk, ex, kd, rd, mv, frz, toS, arc, ar0, resAll, res_sl, res_dt, Option.bind_some, ixF, ixS, lenF, intF, strF, cmpF, addF, subF, mulF, modF, fdivF, eqF, neF, deq, truD, argsS, argS, sls, backS, rsB, callf, put_nm, put_tp, put_tl, puts_nil, puts_cons, lsc, ls0, lstG, tupG, forS, putC, itD, itsOf, itN, rng1, mut1, mut0, appF, Rs.bind_ok, Rs.bind_exc, Rs.bind_stuck, Rs.ctl_ok, Rs.ctl_exc, Rs.ctl_stuck, Rs.opt_some, Rs.opt_none, Ctl.then_nx, Ctl.then_ret, Ctl.then_exc, Ctl.then_brk, Ctl.then_cnt, Ctl.then_stuck]) ⟨zs, _, _, _, rfl, by simp [My.fin, wn_un, wn_d, wn_L, wn_M, wn_T, wn_O, wn_X], by rw [l4, rgI_len], n4, s4⟩
/-- cells as data -/
def cellD (c : Str × List Str) : D := .tup [.str c.1, .lst (c.2.map .str)]

/-! ### names that are let by -/
theorem chrs_len (z : Str) : (chrs z).length = z.length := by simp [chrs, Str.length]
theorem in_lfs {c : Nat} (h : c ∈ LFS.cps.toList) : inF (.str ⟨#[c]⟩) (.str LFS) = some (sB true) := by
  unfold inF memF
  have : (⟨#[c]⟩ : Str).length = 1 := rfl
  simp [this, show c ∈ LFS.cps from by simpa using h]
theorem r_is_name {k : Nat} {z : Str} (h : Nm k z) (hk : k ≤ 10) : m_is_name [.d (.str z)] = .ok (.d (.bl true)) [.d (.str z)] := by
  obtain ⟨h1, h2, ⟨c, r, e, hc⟩, h3⟩ := h
  have fL : ("abcdefghijklmnopqrstuvwxyz" : Str) = LETS := rfl
  have fLF : ("abcdefghijklmnopqrstuvwxyz0123456789" : Str) = LFS := rfl
  have l0 : z.length ≤ 100000 := by omega
  have l1 : (1 : Int) ≤ z.length := by omega
  have l2 : (z.length : Int) ≤ 10 := by omega
  have a0 : ixF (.str z) (.int 0) = some (.d (.str ⟨#[c]⟩)) := by
    have : L2.atI z.cps.toList 0 = some c := by rw [e]; unfold L2.atI L2.ixN; simp
    unfold ixF ixS
    simp only [if_pos l0, this, Option.map_some]
  have a1 : ninF (.str ⟨#[c]⟩) (.str LETS) = some (sB false) := by
    unfold ninF memF
    have : (⟨#[c]⟩ : Str).length = 1 := rfl
    simp [this, show c ∈ LETS.cps from by simpa using hc]
  obtain ⟨s, ss', e9, h9⟩ : ∃ s ss', m_is_name [.d (.str z)] = .ok s ss' ∧ s = .d (.bl true) ∧ ss' = [.d (.str z)] := by
    unfold m_is_name
    rw [fL, fLF]
    refine rt_fn rfl ?_
    refine rt_if false (ρ1 := [.d (.str z), .un]) (by simp [fnM, endF_ret, endF_nx, endF_exc, endF_stuck, fin, okB, wn_un, wn_d, wn_L, wn_M, wn_T, wn_O, wn_X, dat_un, dat_d, dat_L, dat_M, dat_T, dat_O, dat_X, bc, b0, ifS, ret, retN, My.set, sto, stoM, drp, asg, asB, asT, notT, andT, orT, op1, op2, opn, pk, ex, kd, rd, mv, frz, toS, arc, ar0, resAll, res_sl, res_dt, Option.bind_some, lenF, intF, strF, cmpF, addF, subF, mulF, modF, fdivF, eqF, neF, deq, truD, argsS, argS, sls, backS, rsB, callf, put_nm, put_tp, put_tl, puts_nil, puts_cons, lsc, ls0, lstG, tupG, forS, putC, itD, itsOf, itN, rng1, mut1, mut0, appF, Rs.bind_ok, Rs.bind_exc, Rs.bind_stuck, Rs.ctl_ok, Rs.ctl_exc, Rs.ctl_stuck, Rs.opt_some, Rs.opt_none, Ctl.then_nx, Ctl.then_ret, Ctl.then_exc, Ctl.then_brk, Ctl.then_cnt, Ctl.then_stuck, chn, leF, l0, l1, l2, a0, a1]) (fun e => by cases e) fun _ => rt_b0 ?_
    have lc := lcG_map (m := itD (rd 0)) (t := .nm 1) (vs := [1]) (e := frz (op2 inF (pk 1) (ex (kd (.str LFS))))) (its := chrs z) (ρ := [.d (.str z), .un]) (ρ1 := [.d (.str z), .un]) (fun _ => .bl true) (by simp [fnM, endF_ret, endF_nx, endF_exc, endF_stuck, fin, okB, wn_un, wn_d, wn_L, wn_M, wn_T, wn_O, wn_X, dat_un, dat_d, dat_L, dat_M, dat_T, dat_O, dat_X, bc, b0, ifS, ret, retN, My.set, sto, stoM, drp, asg, asB, asT, notT, andT, orT, op1, op2, opn, pk, ex, kd, rd, mv, frz, toS, arc, ar0, resAll, res_sl, res_dt, Option.bind_some, ixF, ixS, lenF, intF, strF, cmpF, addF, subF, mulF, modF, fdivF, eqF, neF, deq, truD, argsS, argS, sls, backS, rsB, callf, put_nm, put_tp, put_tl, puts_nil, puts_cons, lsc, ls0, lstG, tupG, forS, putC, itD, itsOf, itN, rng1, mut1, mut0, appF, Rs.bind_ok, Rs.bind_exc, Rs.bind_stuck, Rs.ctl_ok, Rs.ctl_exc, Rs.ctl_stuck, Rs.opt_some, Rs.opt_none, Ctl.then_nx, Ctl.then_ret, Ctl.then_exc, Ctl.then_brk, Ctl.then_cnt, Ctl.then_stuck, l0]) (by rw [chrs_len]; exact l0) (fun x hx => by
      obtain ⟨d, hd, rfl⟩ := List.mem_map.mp hx
      exact ⟨_, [.d (.str z), .d (.str ⟨#[d]⟩)], rfl, by simp [fnM, endF_ret, endF_nx, endF_exc, endF_stuck, fin, okB, wn_un, wn_d, wn_L, wn_M, wn_T, wn_O, wn_X, dat_un, dat_d, dat_L, dat_M, dat_T, dat_O, dat_X, bc, b0, ifS, ret, retN, My.set, sto, stoM, drp, asg, asB, asT, notT, andT, orT, op1, op2, opn, pk, ex, kd, rd, mv, frz, toS, arc, ar0, resAll, res_sl, res_dt, Option.bind_some, ixF, ixS, lenF, intF, strF, cmpF, addF, subF, mulF, modF, fdivF, eqF, neF, deq, truD, argsS, argS, sls, backS, rsB, callf, put_nm, put_tp, put_tl, puts_nil, puts_cons, lsc, ls0, lstG, tupG, forS, putC, itD, itsOf, itN, rng1, mut1, mut0, appF, Rs.bind_ok, Rs.bind_exc, Rs.bind_stuck, Rs.ctl_ok, Rs.ctl_exc, Rs.ctl_stuck, Rs.opt_some, Rs.opt_none, Ctl.then_nx, Ctl.then_ret, Ctl.then_exc, Ctl.then_brk, Ctl.then_cnt, Ctl.then_stuck, wipeE, in_lfs (h3 d hd)], rfl⟩)
    have key : ∀ n : Nat, blsOf (List.replicate n (D.bl true)) = some (List.replicate n true) := fun n => by
      induction n with
      | zero => rfl
      | succ n ih => rw [List.replicate_succ]; show (blsOf _).map _ = _; rw [ih]; rfl
    have al : ∀ n : Nat, allF [.lst (List.replicate n (D.bl true))] = some (sB true) := fun n => by
      unfold allF
      simp only [key]
      simp
    rw [List.map_const'] at lc
    exact rt_ret (s := .d (.bl true)) (ρ1 := [.d (.str z), .un]) (by simp only [fnM, endF_ret, endF_nx, endF_exc, endF_stuck, fin, okB, wn_un, wn_d, wn_L, wn_M, wn_T, wn_O, wn_X, dat_un, dat_d, dat_L, dat_M, dat_T, dat_O, dat_X, bc, b0, ifS, ret, retN, My.set, sto, stoM, drp, asg, asB, asT, notT, andT, orT, op1, op2, opn, pk, ex, kd, rd, mv, frz, toS, arc, ar0, resAll, res_sl, res_dt, Option.bind_some, ixF, ixS, lenF, intF, strF, cmpF, addF, subF, mulF, modF, fdivF, eqF, neF, deq, truD, argsS, argS, sls, backS, rsB, callf, put_nm, put_tp, put_tl, puts_nil, puts_cons, lsc, ls0, lstG, tupG, forS, putC, itD, itsOf, itN, rng1, mut1, mut0, appF, Rs.bind_ok, Rs.bind_exc, Rs.bind_stuck, Rs.ctl_ok, Rs.ctl_exc, Rs.ctl_stuck, Rs.opt_some, Rs.opt_none, Ctl.then_nx, Ctl.then_ret, Ctl.then_exc, Ctl.then_brk, Ctl.then_cnt, Ctl.then_stuck, lc]; simp [fnM, endF_ret, endF_nx, endF_exc, endF_stuck, fin, okB, wn_un, wn_d, wn_L, wn_M, wn_T, wn_O, wn_X, dat_un, dat_d, dat_L, dat_M, dat_T, dat_O, dat_X, bc, b0, ifS, ret, retN, My.set, sto, stoM, drp, asg, asB, asT, notT, andT, orT, op1, op2, opn, pk, ex, kd, rd, mv, frz, toS, arc, ar0, resAll, res_sl, res_dt, Option.bind_some, ixF, ixS, lenF, intF, strF, cmpF, addF, subF, mulF, modF, fdivF, eqF, neF, deq, truD, argsS, argS, sls, backS, rsB, callf, put_nm, put_tp, put_tl, puts_nil, puts_cons, lsc, ls0, lstG, tupG, forS, putC, itD, itsOf, itN, rng1, mut1, mut0, appF, Rs.bind_ok, Rs.bind_exc, Rs.bind_stuck, Rs.ctl_ok, Rs.ctl_exc, Rs.ctl_stuck, Rs.opt_some, Rs.opt_none, Ctl.then_nx, Ctl.then_ret, Ctl.then_exc, Ctl.then_brk, Ctl.then_cnt, Ctl.then_stuck, al, resE, wipeE]) ⟨rfl, by simp [My.fin, wn_un, wn_d, wn_L, wn_M, wn_T, wn_O, wn_X]⟩
  rw [e9, h9.1, h9.2]
theorem r_need_names {zs : List Str} (h : ∀ z ∈ zs, Nm 10 z) : m_need_names [.d (.lst (zs.map .str))] = .ok (.d .non) [.d (.lst (zs.map .str))] := by
  obtain ⟨ρ', e, x, rfl⟩ := forL_inv (t := .nm 1) (b := ifS (notT (asT (ex (frz (callf 1 m_is_name (arc (pk 1) ar0)))))) (rsx 2 1 (lsc (rd 1) ls0)) b0) (its := zs.map .str) (fun _ ρ => ∃ x : S, ρ = [.d (.lst (zs.map .str)), x]) (fun i x ρ hx hi => by
    obtain ⟨y, rfl⟩ := hi
    rw [List.getElem?_map] at hx
    obtain ⟨z, ez, rfl⟩ := Option.map_eq_some_iff.mp hx
    have e := r_is_name (h z (List.mem_of_getElem? ez)) (Nat.le_refl _)
    exact ⟨_, [.d (.lst (zs.map .str)), .d (.str z)], rfl, .inl (by simp [fnM, endF_ret, endF_nx, endF_exc, endF_stuck, fin, okB, wn_un, wn_d, wn_L, wn_M, wn_T, wn_O, wn_X, dat_un, dat_d, dat_L, dat_M, dat_T, dat_O, dat_X, bc, b0, ifS, ret, retN, My.set, sto, stoM, drp, asg, asB, asT, notT, andT, orT, op1, op2, opn, pk, ex, kd, rd, mv, frz, toS, arc, ar0, resAll, res_sl, res_dt, Option.bind_some, ixF, ixS, lenF, intF, strF, cmpF, addF, subF, mulF, modF, fdivF, eqF, neF, deq, truD, argsS, argS, sls, backS, rsB, callf, put_nm, put_tp, put_tl, puts_nil, puts_cons, lsc, ls0, lstG, tupG, forS, putC, itD, itsOf, itN, rng1, mut1, mut0, appF, Rs.bind_ok, Rs.bind_exc, Rs.bind_stuck, Rs.ctl_ok, Rs.ctl_exc, Rs.ctl_stuck, Rs.opt_some, Rs.opt_none, Ctl.then_nx, Ctl.then_ret, Ctl.then_exc, Ctl.then_brk, Ctl.then_cnt, Ctl.then_stuck, e]), _, rfl⟩) (ρ := [.d (.lst (zs.map .str)), .un]) ⟨_, rfl⟩
  unfold m_need_names
  refine (fn_nx [.d (.lst (zs.map .str)), x] rfl ?_).trans (by simp [My.fin, wn_un, wn_d, wn_L, wn_M, wn_T, wn_O, wn_X])
  show forS _ _ _ [.d (.lst (zs.map .str)), .un] = _
  unfold forS
  simp only [fnM, endF_ret, endF_nx, endF_exc, endF_stuck, fin, okB, wn_un, wn_d, wn_L, wn_M, wn_T, wn_O, wn_X, dat_un, dat_d, dat_L, dat_M, dat_T, dat_O, dat_X, bc, b0, ifS, ret, retN, My.set, sto, stoM, drp, asg, asB, asT, notT, andT, orT, op1, op2, opn, pk, ex, kd, rd, mv, frz, toS, arc, ar0, resAll, res_sl, res_dt, Option.bind_some, ixF, ixS, lenF, intF, strF, cmpF, addF, subF, mulF, modF, fdivF, eqF, neF, deq, truD, argsS, argS, sls, backS, rsB, callf, put_nm, put_tp, put_tl, puts_nil, puts_cons, lsc, ls0, lstG, tupG, forS, putC, itD, itsOf, itN, rng1, mut1, mut0, appF, Rs.bind_ok, Rs.bind_exc, Rs.bind_stuck, Rs.ctl_ok, Rs.ctl_exc, Rs.ctl_stuck, Rs.opt_some, Rs.opt_none, Ctl.then_nx, Ctl.then_ret, Ctl.then_exc, Ctl.then_brk, Ctl.then_cnt, Ctl.then_stuck, List.getElem?_cons_zero]
  exact e
theorem nn1 {z : Str} (h : Nm 10 z) : m_need_names [.d (.lst [.str z])] = .ok (.d .non) [.d (.lst [.str z])] := r_need_names (zs := [z]) fun y hy => by rw [List.mem_singleton.mp hy]; exact h
theorem nn2 {z y : Str} (h : Nm 10 z) (h' : Nm 10 y) : m_need_names [.d (.lst [.str z, .str y])] = .ok (.d .non) [.d (.lst [.str z, .str y])] := r_need_names (zs := [z, y]) fun x hx => by
  rcases List.mem_cons.mp hx with rfl | hx
  · exact h
  · rw [List.mem_singleton.mp hx]; exact h'


-- NOMD
/-! ### what is asked of counts and names -/
theorem cutD_to {xs : List D} {i : Nat} (h : i ≤ xs.length) : cutD xs none (some (i : Int)) = xs.take i := by
  unfold cutD
  rw [HT.sIx_nat, HT.sIx_none, Nat.min_eq_left h, List.drop_zero, Nat.sub_zero]
theorem cutD_from {xs : List D} {i : Nat} (h : i ≤ xs.length) : cutD xs (some (i : Int)) none = xs.drop i := by
  unfold cutD
  rw [HT.sIx_nat, HT.sIx_none, Nat.min_eq_left h]
  exact List.take_of_length_le (by rw [List.length_drop]; exact Nat.le_refl _)
theorem r_need_count {w : Str} {i lo hi : Int} (a : lo ≤ i) (b : i ≤ hi) : m_need_count [.d (.str w), .d (.int i), .d (.int lo), .d (.int hi)] = .ok (.d .non) [.d (.str w), .d (.int i), .d (.int lo), .d (.int hi)] := by
  unfold m_need_count
  exact fn_nx [.d (.str w), .d (.int i), .d (.int lo), .d (.int hi)] rfl (by simp [fnM, endF_ret, endF_nx, endF_exc, endF_stuck, fin, okB, wn_un, wn_d, wn_L, wn_M, wn_T, wn_O, wn_X, dat_un, dat_d, dat_L, dat_M, dat_T, dat_O, dat_X, bc, b0, ifS, ret, retN, My.set, sto, stoM, drp, asg, asB, asT, notT, andT, orT, op1, op2, opn, pk, ex, kd, rd, mv, frz, toS, arc, ar0, resAll, res_sl, res_dt, Option.bind_some, ixF, ixS, lenF, intF, strF, cmpF, addF, subF, mulF, modF, fdivF, eqF, neF, deq, truD, argsS, argS, sls, backS, rsB, callf, put_nm, put_tp, put_tl, puts_nil, puts_cons, lsc, ls0, lstG, tupG, forS, putC, itD, itsOf, itN, rng1, mut1, mut0, appF, Rs.bind_ok, Rs.bind_exc, Rs.bind_stuck, Rs.ctl_ok, Rs.ctl_exc, Rs.ctl_stuck, Rs.opt_some, Rs.opt_none, Ctl.then_nx, Ctl.then_ret, Ctl.then_exc, Ctl.then_brk, Ctl.then_cnt, Ctl.then_stuck, isN, notN, ifE, fldF, isF, List.lookup, clsOf, orr, callm, mkf, mkB, mk0, stf, slG, ext1, augI, chn, leF, ltF, gtF, geF, enm, enmT, part, noPart, tupleF, listF, a, b])
theorem nodup_take {zs : List Str} {i : Nat} {z : Str} (h : zs.Nodup) (e : zs[i]? = some z) : z ∉ zs.take i := fun hz => by
  obtain ⟨j, hj⟩ := List.mem_iff_getElem?.mp hz
  rw [List.getElem?_take] at hj
  split at hj
  · rename_i hl
    obtain ⟨h1, e1⟩ := List.getElem?_eq_some_iff.mp e
    obtain ⟨h2, e2⟩ := List.getElem?_eq_some_iff.mp hj
    have := (List.getElem_inj h).mp (e1.trans e2.symm)
    omega
  · cases hj
theorem r_need_once {zs : List Str} (h : zs.Nodup) : m_need_once [.d (.lst (zs.map .str))] = .ok (.d .non) [.d (.lst (zs.map .str))] := by
  obtain ⟨ρ', e, x, y, rfl⟩ := forL_inv (t := .tp [.nm 1, .nm 2]) (b := ifS (asB (op2 inF (pk 2) (ex (frz (slG (pk 0) noPart (part (rd 1))))))) (rsx 3 1 (lsc (rd 2) ls0)) b0) (its := enumD 0 (zs.map .str)) (fun _ ρ => ∃ x y : S, ρ = [.d (.lst (zs.map .str)), x, y]) (fun i x ρ hx hi => by
    obtain ⟨y, w, rfl⟩ := hi
    rw [enumD_get, List.getElem?_map] at hx
    obtain ⟨v, hv, rfl⟩ := Option.map_eq_some_iff.mp hx
    obtain ⟨z, ez, rfl⟩ := Option.map_eq_some_iff.mp hv
    have il := (List.getElem?_eq_some_iff.mp ez).1
    have c := cutD_to (xs := zs.map .str) (i := i) (by rw [List.length_map]; omega)
    have m : inF (.str z) (.lst ((zs.take i).map .str)) = some (sB false) := by rw [memS]; simp [nodup_take h ez]
    rw [Nat.zero_add]
    refine ⟨[.d (.lst (zs.map .str)), .d (.int (i : Nat)), .d (.str z)], [.d (.lst (zs.map .str)), .d (.int (i : Nat)), .d (.str z)], by simp [put_tp, puts_cons, puts_nil, put_nm], .inl ?_, _, _, rfl⟩
    simp [fnM, endF_ret, endF_nx, endF_exc, endF_stuck, fin, okB, wn_un, wn_d, wn_L, wn_M, wn_T, wn_O, wn_X, dat_un, dat_d, dat_L, dat_M, dat_T, dat_O, dat_X, bc, b0, ifS, ret, retN, My.set, sto, stoM, drp, asg, asB, asT, notT, andT, orT, op1, op2, opn, pk, ex, kd, rd, mv, frz, toS, arc, ar0, resAll, res_sl, res_dt, Option.bind_some, ixF, ixS, lenF, intF, strF, cmpF, addF, subF, mulF, modF, fdivF, eqF, neF, deq, truD, argsS, argS, sls, backS, rsB, callf, put_nm, put_tp, put_tl, puts_nil, puts_cons, lsc, ls0, lstG, tupG, forS, putC, itD, itsOf, itN, rng1, mut1, mut0, appF, Rs.bind_ok, Rs.bind_exc, Rs.bind_stuck, Rs.ctl_ok, Rs.ctl_exc, Rs.ctl_stuck, Rs.opt_some, Rs.opt_none, Ctl.then_nx, Ctl.then_ret, Ctl.then_exc, Ctl.then_brk, Ctl.then_cnt, Ctl.then_stuck, isN, notN, ifE, fldF, isF, List.lookup, clsOf, orr, callm, mkf, mkB, mk0, stf, slG, ext1, augI, chn, leF, ltF, gtF, geF, enm, enmT, part, noPart, tupleF, listF, slF, c, m, ← List.map_take]) (ρ := [.d (.lst (zs.map .str)), .un, .un]) ⟨_, _, rfl⟩
  unfold m_need_once
  refine (fn_nx [.d (.lst (zs.map .str)), x, y] rfl ?_).trans (by simp [My.fin, wn_un, wn_d, wn_L, wn_M, wn_T, wn_O, wn_X])
  show forS _ _ _ [.d (.lst (zs.map .str)), .un, .un] = _
  unfold forS
  simp only [fnM, endF_ret, endF_nx, endF_exc, endF_stuck, fin, okB, wn_un, wn_d, wn_L, wn_M, wn_T, wn_O, wn_X, dat_un, dat_d, dat_L, dat_M, dat_T, dat_O, dat_X, bc, b0, ifS, ret, retN, My.set, sto, stoM, drp, asg, asB, asT, notT, andT, orT, op1, op2, opn, pk, ex, kd, rd, mv, frz, toS, arc, ar0, resAll, res_sl, res_dt, Option.bind_some, ixF, ixS, lenF, intF, strF, cmpF, addF, subF, mulF, modF, fdivF, eqF, neF, deq, truD, argsS, argS, sls, backS, rsB, callf, put_nm, put_tp, put_tl, puts_nil, puts_cons, lsc, ls0, lstG, tupG, forS, putC, itD, itsOf, itN, rng1, mut1, mut0, appF, Rs.bind_ok, Rs.bind_exc, Rs.bind_stuck, Rs.ctl_ok, Rs.ctl_exc, Rs.ctl_stuck, Rs.opt_some, Rs.opt_none, Ctl.then_nx, Ctl.then_ret, Ctl.then_exc, Ctl.then_brk, Ctl.then_cnt, Ctl.then_stuck, isN, notN, ifE, fldF, isF, List.lookup, clsOf, orr, callm, mkf, mkB, mk0, stf, slG, ext1, augI, chn, leF, ltF, gtF, geF, enm, enmT, part, noPart, tupleF, listF, List.getElem?_cons_zero]
  exact e


-- NOMD
/-! ### comprehensions of two clauses -/
theorem lc2L_mapA {α : Type} {t : Tg} {vs : List Nat} {m2 : En → Rs (List D)} {t2 : Tg} {vs1 : List Nat} {e : En → Rs D} (a : α → D) (f : α → List D) {ρw : En} : ∀ (its : List α) (acc : List D), acc.length + (its.map f).flatten.length ≤ 100000 →
    (∀ x ∈ its, ∃ ρ1 ρ2 ρ3 its2, t.put (a x) ρw = some ρ1 ∧ m2 ρ1 = .ok its2 ρ2 ∧ its2.length = (f x).length ∧ (∀ acc, lcL t2 vs1 tru e its2 acc (wipeE ρ2 vs1) = .ok (acc ++ f x) ρ3) ∧ wipeE ρ3 vs = ρw) → lc2L t vs m2 t2 vs1 e (its.map a) acc ρw = .ok (acc ++ (its.map f).flatten) ρw
  | [], acc, _, _ => by simp [lc2L]
  | x :: its, acc, hl, h => by
    obtain ⟨ρ1, ρ2, ρ3, its2, e1, e2, e3, e4, e5⟩ := h x List.mem_cons_self
    rw [List.map_cons, List.flatten_cons, List.length_append] at hl
    rw [List.map_cons]
    unfold lc2L
    rw [e1]
    simp only [Rs.opt_some, e2, Rs.cb_ok]
    rw [if_pos (by omega), e4]
    simp only [Rs.cb_ok, e5]
    rw [lc2L_mapA a f its (acc ++ f x) (by rw [List.length_append]; omega) fun y hy => h y (List.mem_cons_of_mem _ hy)]
    simp
theorem lc2G_mapA {α : Type} {m : En → Rs (List D)} {t : Tg} {vs : List Nat} {m2 : En → Rs (List D)} {t2 : Tg} {vs1 : List Nat} {e : En → Rs D} {ρ ρ1 : En} (a : α → D) (f : α → List D) (its : List α) (hm : m ρ = .ok (its.map a) ρ1) (hl : (its.map f).flatten.length ≤ 100000)
    (h : ∀ x ∈ its, ∃ ρ2 ρ3 ρ4 its2, t.put (a x) (wipeE ρ1 vs) = some ρ2 ∧ m2 ρ2 = .ok its2 ρ3 ∧ its2.length = (f x).length ∧ (∀ acc, lcL t2 vs1 tru e its2 acc (wipeE ρ3 vs1) = .ok (acc ++ f x) ρ4) ∧ wipeE ρ4 vs = wipeE ρ1 vs) :
    lc2G m t vs m2 t2 vs1 e ρ = .ok (.L (its.map f).flatten) (resE ρ1 (wipeE ρ1 vs) vs) := by
  unfold lc2G
  rw [hm]
  simp only [Rs.bind_ok]
  rw [lc2L_mapA a f its [] (by simpa using hl) h]
  rfl
theorem sum_w {zs : List Str} (h : ∀ z ∈ zs, z.length ≤ 10) : (zs.map (·.length)).sum ≤ 10 * zs.length := by
  induction zs with
  | nil => simp
  | cons z zs ih =>
    have := h z List.mem_cons_self
    have := ih fun y hy => h y (List.mem_cons_of_mem _ hy)
    simp; omega


-- NOMD
/-! ### slices of lists -/
theorem cutX_to (xs : List D) {n : Int} (h : 0 ≤ n) : cutD xs none (some n) = xs.take n.toNat := by
  obtain ⟨k, rfl⟩ : ∃ k : Nat, n = k := ⟨n.toNat, by omega⟩
  rw [Int.toNat_natCast]
  unfold cutD
  rw [HT.sIx_nat, HT.sIx_none, List.drop_zero, Nat.sub_zero]
  rw [← List.take_take, List.take_length]
theorem cutX_from (xs : List D) {n : Int} (h : 0 ≤ n) : cutD xs (some n) none = xs.drop n.toNat := by
  obtain ⟨k, rfl⟩ : ∃ k : Nat, n = k := ⟨n.toNat, by omega⟩
  rw [Int.toNat_natCast]
  unfold cutD
  rw [HT.sIx_nat, HT.sIx_none]
  rw [show xs.length - min k xs.length = (xs.drop (min k xs.length)).length by rw [List.length_drop], List.take_length]
  rcases Nat.le_total xs.length k with q | q
  · rw [Nat.min_eq_right q, List.drop_length, List.drop_of_length_le q]
  · rw [Nat.min_eq_left q]
theorem cutX_two (xs : List D) {n m : Int} (h : 0 ≤ n) (hm : n ≤ m) : cutD xs (some n) (some m) = (xs.drop n.toNat).take (m - n).toNat := by
  obtain ⟨k, rfl⟩ : ∃ k : Nat, n = k := ⟨n.toNat, by omega⟩
  obtain ⟨j, rfl⟩ : ∃ j : Nat, m = (k + j : Nat) := ⟨(m - k).toNat, by omega⟩
  rw [Int.toNat_natCast, show (((k + j : Nat) : Int) - (k : Int)).toNat = j by omega]
  unfold cutD
  rw [HT.sIx_nat, HT.sIx_nat]
  by_cases h : k ≤ xs.length
  · rw [Nat.min_eq_left h]
    by_cases h2 : k + j ≤ xs.length
    · rw [Nat.min_eq_left h2, Nat.add_sub_cancel_left]
    · rw [Nat.min_eq_right (by omega), List.take_of_length_le (by simp), List.take_of_length_le (by simp; omega)]
  · have hm : min k xs.length = xs.length := by omega
    rw [hm, List.drop_eq_nil_iff.mpr (by simp), List.drop_eq_nil_iff.mpr (by omega)]; simp


-- NOMD
theorem ix_nn {xs : List D} {i : Int} (h0 : 0 ≤ i) (h1 : i < xs.length) : ∃ x, ixF (.lst xs) (.int i) = some (.d x) ∧ xs[i.toNat]? = some x := by
  obtain ⟨x, e1, e2⟩ := atI_nn h0 h1
  exact ⟨x, by show Option.map S.d _ = _; rw [e1]; rfl, e2⟩
theorem ix_ss {zs : List Str} {i : Int} (h0 : 0 ≤ i) (h1 : i < zs.length) : ∃ z, ixF (.lst (zs.map .str)) (.int i) = some (.d (.str z)) ∧ z ∈ zs := by
  obtain ⟨x, e1, e2⟩ := ix_nn (xs := zs.map .str) h0 (by rw [List.length_map]; exact h1)
  rw [List.getElem?_map] at e2
  obtain ⟨z, e3, rfl⟩ := Option.map_eq_some_iff.mp e2
  exact ⟨z, e1, List.mem_of_getElem? e3⟩


-- NOMD
/-! ### parts one behind the other -/
theorem app_len (a b : Str) : (a ++ b).length = a.length + b.length := by
  show (a.cps ++ b.cps).size = a.cps.size + b.cps.size
  exact Array.size_append
theorem bl_len : (" " : Str).length = 1 := by decide +kernel
/-- how long parts are, a blank behind each -/
def WS (ws : List Str) : Nat := (ws.map fun w => w.length + 1).sum
theorem ws_app (a b : List Str) : WS (a ++ b) = WS a + WS b := by simp [WS]
theorem ws_take (n : Nat) (a : List Str) : WS (a.take n) ≤ WS a := by
  have := ws_app (a.take n) (a.drop n)
  rw [List.take_append_drop] at this; omega
theorem ws_drop (n : Nat) (a : List Str) : WS (a.drop n) ≤ WS a := by
  have := ws_app (a.take n) (a.drop n)
  rw [List.take_append_drop] at this; omega
theorem ws_len (a : List Str) : a.length ≤ WS a := by
  induction a with
  | nil => exact Nat.zero_le _
  | cons x a ih => simp only [WS, List.map_cons, List.sum_cons, List.length_cons] at ih ⊢; omega
theorem ws_sum (a : List Str) : (a.map (·.length)).sum + a.length = WS a := by
  induction a with
  | nil => rfl
  | cons x a ih => simp only [WS, List.map_cons, List.sum_cons, List.length_cons] at ih ⊢; omega
theorem join_ws : ∀ {ws : List Str}, ws ≠ [] → (Str.join " " ws).length + 1 = WS ws
  | [], h => absurd rfl h
  | [x], _ => by simp [Str.join, WS]
  | x :: y :: r, _ => by
    have ih := join_ws (ws := y :: r) (List.cons_ne_nil _ _)
    show (x ++ " " ++ Str.join " " (y :: r)).length + 1 = _
    rw [app_len, app_len, bl_len]
    simp only [WS, List.map_cons, List.sum_cons] at ih ⊢
    omega
theorem join_ws_le (ws : List Str) : (Txt.join " " ws).length ≤ WS ws := by
  rw [TL.join_eq]
  cases ws with
  | nil => exact Nat.zero_le _
  | cons x r => have := join_ws (ws := x :: r) (List.cons_ne_nil _ _); omega


-- NOMD
/-! ### questions -/
def leadD : Option Str → D
  | none => .non
  | some z => .str z
def holdD (h : Str × Str) : D := .tup [.str h.1, .str h.2]
def qR (l : Option Str) (fs : List Str) (hs : List (Str × Str)) : List D := [leadD l, .tup (fs.map .str), .tup (hs.map holdD)]
structure QOk (l : Option Str) (fs : List Str) (hs : List (Str × Str)) : Prop where
  ln : ∀ z, l = some z → Nm 10 z
  f6 : fs.length ≤ 6
  fn : ∀ z ∈ fs, Nm 10 z
  hn : ∀ h ∈ hs, Nm 10 h.1 ∧ Nm 10 h.2
  hd : (hs.map (·.1)).Nodup
  h9 : hs.length ≤ 1000
def ArgL (x : D) (xs : List D) : Prop := x = .lst xs ∨ (x = .non ∧ xs = [])
def leadL (l : Option Str) : List Str := match l with | none => [] | some z => [z]
theorem lead_ask (l : Option Str) : isN (leadD l) .non = some (sB l.isNone) := by cases l <;> rfl
theorem hold_names (hs : List (Str × Str)) : (hs.map fun h => [D.str h.1, D.str h.2]).flatten = (hs.flatMap fun h => [h.1, h.2]).map .str := by
  induction hs with
  | nil => rfl
  | cons h hs ih => simp [ih]
theorem hold_len (hs : List (Str × Str)) : (hs.flatMap fun h => [h.1, h.2]).length = 2 * hs.length := by
  induction hs with
  | nil => rfl
  | cons h hs ih => simp only [List.flatMap_cons, List.length_append, ih, List.length_cons, List.length_nil]; omega
theorem r_Question {l : Option Str} {fs : List Str} {hs : List (Str × Str)} (ok : QOk l fs hs) {xf xh : D} (hf : ArgL xf (fs.map .str)) (hh : ArgL xh (hs.map holdD)) :
    m_Question_init [.O 0 [], .d (leadD l), .d xf, .d xh] = .ok (.d .non) [.O 0 (qR l fs hs), .d (leadD l), .d xf, .d xh] := by
  have n1 : m_need_names [.d (.lst ((leadL l).map .str))] = .ok (.d .non) [.d (.lst ((leadL l).map .str))] := r_need_names fun z hz => by
    cases l with
    | none => cases hz
    | some y => simp [leadL] at hz; subst hz; exact ok.ln _ rfl
  have n2 := r_need_names (zs := fs) ok.fn
  have n3 := r_need_names (zs := hs.flatMap fun h => [h.1, h.2]) fun z hz => by
    obtain ⟨h, h1, h2⟩ := List.mem_flatMap.mp hz
    simp only [List.mem_cons, List.not_mem_nil, or_false] at h2
    rcases h2 with rfl | rfl
    · exact (ok.hn h h1).1
    · exact (ok.hn h h1).2
  have n4 := r_need_once ok.hd
  have c1 := r_need_count (w := "follows") (i := (fs.length : Nat)) (lo := 0) (hi := 6) (by omega) (by have := ok.f6; omega)
  have la := lead_ask l
  have l9 := ok.h9
  have f6 := ok.f6
  let U (s : List D) (a b : S) : En := [.O 0 s, .d (leadD l), .d xf, .d xh, a, b, .un, .un, .un, .un, .un]
  let FL : D := .lst (fs.map .str)
  let HL : D := .lst (hs.map holdD)
  have e2 := lc2G_mapA (m := itD (rd 5)) (t := .nm 6) (vs := [6, 7]) (m2 := itD (rd 6)) (t2 := .nm 7) (vs1 := [7]) (e := rd 7) (ρ := U [] (.d FL) (.d HL)) (ρ1 := U [] (.d FL) (.d HL)) holdD (fun h => [D.str h.1, D.str h.2]) hs (by simp only [U, HL]; simp [fnM, endF_ret, endF_nx, endF_exc, endF_stuck, fin, okB, wn_un, wn_d, wn_L, wn_M, wn_T, wn_O, wn_X, dat_un, dat_d, dat_L, dat_M, dat_T, dat_O, dat_X, bc, b0, ifS, ret, retN, My.set, sto, stoM, drp, asg, asB, asT, notT, andT, orT, op1, op2, opn, pk, ex, kd, rd, mv, frz, toS, arc, ar0, resAll, res_sl, res_dt, Option.bind_some, ixF, ixS, lenF, intF, strF, cmpF, addF, subF, mulF, modF, fdivF, eqF, neF, deq, truD, argsS, argS, sls, backS, rsB, callf, put_nm, put_tp, put_tl, puts_nil, puts_cons, lsc, ls0, lstG, tupG, forS, putC, itD, itsOf, itN, rng1, mut1, mut0, appF, Rs.bind_ok, Rs.bind_exc, Rs.bind_stuck, Rs.ctl_ok, Rs.ctl_exc, Rs.ctl_stuck, Rs.opt_some, Rs.opt_none, Ctl.then_nx, Ctl.then_ret, Ctl.then_exc, Ctl.then_brk, Ctl.then_cnt, Ctl.then_stuck, itsOf]) (by rw [hold_names, List.length_map, hold_len]; omega) (fun h hm => by
    refine ⟨(U [] (.d FL) (.d HL)).set 6 (.d (holdD h)), (U [] (.d FL) (.d HL)).set 6 (.d (holdD h)), (U [] (.d FL) (.d HL)).set 6 (.d (holdD h)), [.str h.1, .str h.2], rfl, by simp only [U, holdD]; simp [fnM, endF_ret, endF_nx, endF_exc, endF_stuck, fin, okB, wn_un, wn_d, wn_L, wn_M, wn_T, wn_O, wn_X, dat_un, dat_d, dat_L, dat_M, dat_T, dat_O, dat_X, bc, b0, ifS, ret, retN, My.set, sto, stoM, drp, asg, asB, asT, notT, andT, orT, op1, op2, opn, pk, ex, kd, rd, mv, frz, toS, arc, ar0, resAll, res_sl, res_dt, Option.bind_some, ixF, ixS, lenF, intF, strF, cmpF, addF, subF, mulF, modF, fdivF, eqF, neF, deq, truD, argsS, argS, sls, backS, rsB, callf, put_nm, put_tp, put_tl, puts_nil, puts_cons, lsc, ls0, lstG, tupG, forS, putC, itD, itsOf, itN, rng1, mut1, mut0, appF, Rs.bind_ok, Rs.bind_exc, Rs.bind_stuck, Rs.ctl_ok, Rs.ctl_exc, Rs.ctl_stuck, Rs.opt_some, Rs.opt_none, Ctl.then_nx, Ctl.then_ret, Ctl.then_exc, Ctl.then_brk, Ctl.then_cnt, Ctl.then_stuck, itsOf], rfl, fun acc => ?_, by simp only [U]; simp [wipeE]⟩
    simp only [U]
    simp [wipeE, lcL, tru, rd, put_nm, Rs.cb_ok])
  rw [hold_names] at e2
  have e4 := lcG_mapA (m := itD (rd 5)) (t := .tp [.nm 8, .nm 9]) (vs := [8, 9]) (e := rd 8) (ρ := U [] (.d FL) (.d HL)) (ρ1 := U [] (.d FL) (.d HL)) holdD (fun h => .str h.1) hs (by simp only [U, HL]; simp [fnM, endF_ret, endF_nx, endF_exc, endF_stuck, fin, okB, wn_un, wn_d, wn_L, wn_M, wn_T, wn_O, wn_X, dat_un, dat_d, dat_L, dat_M, dat_T, dat_O, dat_X, bc, b0, ifS, ret, retN, My.set, sto, stoM, drp, asg, asB, asT, notT, andT, orT, op1, op2, opn, pk, ex, kd, rd, mv, frz, toS, arc, ar0, resAll, res_sl, res_dt, Option.bind_some, ixF, ixS, lenF, intF, strF, cmpF, addF, subF, mulF, modF, fdivF, eqF, neF, deq, truD, argsS, argS, sls, backS, rsB, callf, put_nm, put_tp, put_tl, puts_nil, puts_cons, lsc, ls0, lstG, tupG, forS, putC, itD, itsOf, itN, rng1, mut1, mut0, appF, Rs.bind_ok, Rs.bind_exc, Rs.bind_stuck, Rs.ctl_ok, Rs.ctl_exc, Rs.ctl_stuck, Rs.opt_some, Rs.opt_none, Ctl.then_nx, Ctl.then_ret, Ctl.then_exc, Ctl.then_brk, Ctl.then_cnt, Ctl.then_stuck, itsOf]) (by omega) (fun h hm => ⟨((U [] (.d FL) (.d HL)).set 8 (.d (.str h.1))).set 9 (.d (.str h.2)), ((U [] (.d FL) (.d HL)).set 8 (.d (.str h.1))).set 9 (.d (.str h.2)), by simp only [U, holdD]; simp [wipeE, put_tp, put_nm, puts_cons, puts_nil], by simp only [U]; simp [rd], by simp only [U]; simp [wipeE]⟩)
  have e5 := lcG_mapA (m := itD (rd 5)) (t := .tp [.nm 8, .nm 10]) (vs := [8, 10]) (e := frz (tupG (lsc (rd 8) (lsc (rd 10) ls0)))) (ρ := U [leadD l, .tup (fs.map .str)] (.d FL) (.d HL)) (ρ1 := U [leadD l, .tup (fs.map .str)] (.d FL) (.d HL)) holdD holdD hs (by simp only [U, HL]; simp [fnM, endF_ret, endF_nx, endF_exc, endF_stuck, fin, okB, wn_un, wn_d, wn_L, wn_M, wn_T, wn_O, wn_X, dat_un, dat_d, dat_L, dat_M, dat_T, dat_O, dat_X, bc, b0, ifS, ret, retN, My.set, sto, stoM, drp, asg, asB, asT, notT, andT, orT, op1, op2, opn, pk, ex, kd, rd, mv, frz, toS, arc, ar0, resAll, res_sl, res_dt, Option.bind_some, ixF, ixS, lenF, intF, strF, cmpF, addF, subF, mulF, modF, fdivF, eqF, neF, deq, truD, argsS, argS, sls, backS, rsB, callf, put_nm, put_tp, put_tl, puts_nil, puts_cons, lsc, ls0, lstG, tupG, forS, putC, itD, itsOf, itN, rng1, mut1, mut0, appF, Rs.bind_ok, Rs.bind_exc, Rs.bind_stuck, Rs.ctl_ok, Rs.ctl_exc, Rs.ctl_stuck, Rs.opt_some, Rs.opt_none, Ctl.then_nx, Ctl.then_ret, Ctl.then_exc, Ctl.then_brk, Ctl.then_cnt, Ctl.then_stuck, itsOf]) (by omega) (fun h hm => ⟨((U [leadD l, .tup (fs.map .str)] (.d FL) (.d HL)).set 8 (.d (.str h.1))).set 10 (.d (.str h.2)), ((U [leadD l, .tup (fs.map .str)] (.d FL) (.d HL)).set 8 (.d (.str h.1))).set 10 (.d (.str h.2)), by simp only [U, holdD]; simp [wipeE, put_tp, put_nm, puts_cons, puts_nil], by simp only [U, holdD]; simp [fnM, endF_ret, endF_nx, endF_exc, endF_stuck, fin, okB, wn_un, wn_d, wn_L, wn_M, wn_T, wn_O, wn_X, dat_un, dat_d, dat_L, dat_M, dat_T, dat_O, dat_X, bc, b0, ifS, ret, retN, My.set, sto, stoM, drp, asg, asB, asT, notT, andT, orT, op1, op2, opn, pk, ex, kd, rd, mv, frz, toS, arc, ar0, resAll, res_sl, res_dt, Option.bind_some, ixF, ixS, lenF, intF, strF, cmpF, addF, subF, mulF, modF, fdivF, eqF, neF, deq, truD, argsS, argS, sls, backS, rsB, callf, put_nm, put_tp, put_tl, puts_nil, puts_cons, lsc, ls0, lstG, tupG, forS, putC, itD, itsOf, itN, rng1, mut1, mut0, appF, Rs.bind_ok, Rs.bind_exc, Rs.bind_stuck, Rs.ctl_ok, Rs.ctl_exc, Rs.ctl_stuck, Rs.opt_some, Rs.opt_none, Ctl.then_nx, Ctl.then_ret, Ctl.then_exc, Ctl.then_brk, Ctl.then_cnt, Ctl.then_stuck], by simp only [U]; simp [wipeE]⟩)
  have m4 : (hs.map fun h => D.str h.1) = (hs.map (·.1)).map .str := by simp [Function.comp_def]
  rw [m4] at e4
  unfold m_Question_init
  refine (fn_nx (U (qR l fs hs) (.d FL) (.d HL)) rfl ?_).trans (by simp only [U]; simp [My.fin, wn_un, wn_d, wn_L, wn_M, wn_T, wn_O, wn_X])
  show bc _ _ (U [] .un .un) = _
  refine (bc_nx (ρ' := U [] (.d FL) .un) ?_).trans ((bc_nx (ρ' := U [] (.d FL) (.d HL)) ?_).trans ((bc_nx (ρ' := U [] (.d FL) (.d HL)) ?_).trans ((bc_nx (ρ' := U [] (.d FL) (.d HL)) ?_).trans ((bc_nx (ρ' := U [] (.d FL) (.d HL)) ?_).trans ((bc_nx (ρ' := U [] (.d FL) (.d HL)) ?_).trans ((bc_nx (ρ' := U [] (.d FL) (.d HL)) ?_).trans ((bc_nx (ρ' := U [leadD l] (.d FL) (.d HL)) ?_).trans ((bc_nx (ρ' := U [leadD l, .tup (fs.map .str)] (.d FL) (.d HL)) ?_).trans ?_))))))))
  · simp only [U, FL]
    rcases hf with rfl | ⟨rfl, q⟩
    · simp [fnM, endF_ret, endF_nx, endF_exc, endF_stuck, fin, okB, wn_un, wn_d, wn_L, wn_M, wn_T, wn_O, wn_X, dat_un, dat_d, dat_L, dat_M, dat_T, dat_O, dat_X, bc, b0, ifS, ret, retN, My.set, sto, stoM, drp, asg, asB, asT, notT, andT, orT, op1, op2, opn, pk, ex, kd, rd, mv, frz, toS, arc, ar0, resAll, res_sl, res_dt, Option.bind_some, ixF, ixS, lenF, intF, strF, cmpF, addF, subF, mulF, modF, fdivF, eqF, neF, deq, truD, argsS, argS, sls, backS, rsB, callf, put_nm, put_tp, put_tl, puts_nil, puts_cons, lsc, ls0, lstG, tupG, forS, putC, itD, itsOf, itN, rng1, mut1, mut0, appF, Rs.bind_ok, Rs.bind_exc, Rs.bind_stuck, Rs.ctl_ok, Rs.ctl_exc, Rs.ctl_stuck, Rs.opt_some, Rs.opt_none, Ctl.then_nx, Ctl.then_ret, Ctl.then_exc, Ctl.then_brk, Ctl.then_cnt, Ctl.then_stuck, isN, notN, ifE, fldF, isF, List.lookup, clsOf, orr, callm, mkf, mkB, mk0, stf, slG, ext1, augI, chn, leF, ltF, gtF, geF, enm, enmT, part, noPart, tupleF, listF]
    · rw [q]; simp [fnM, endF_ret, endF_nx, endF_exc, endF_stuck, fin, okB, wn_un, wn_d, wn_L, wn_M, wn_T, wn_O, wn_X, dat_un, dat_d, dat_L, dat_M, dat_T, dat_O, dat_X, bc, b0, ifS, ret, retN, My.set, sto, stoM, drp, asg, asB, asT, notT, andT, orT, op1, op2, opn, pk, ex, kd, rd, mv, frz, toS, arc, ar0, resAll, res_sl, res_dt, Option.bind_some, ixF, ixS, lenF, intF, strF, cmpF, addF, subF, mulF, modF, fdivF, eqF, neF, deq, truD, argsS, argS, sls, backS, rsB, callf, put_nm, put_tp, put_tl, puts_nil, puts_cons, lsc, ls0, lstG, tupG, forS, putC, itD, itsOf, itN, rng1, mut1, mut0, appF, Rs.bind_ok, Rs.bind_exc, Rs.bind_stuck, Rs.ctl_ok, Rs.ctl_exc, Rs.ctl_stuck, Rs.opt_some, Rs.opt_none, Ctl.then_nx, Ctl.then_ret, Ctl.then_exc, Ctl.then_brk, Ctl.then_cnt, Ctl.then_stuck, isN, notN, ifE, fldF, isF, List.lookup, clsOf, orr, callm, mkf, mkB, mk0, stf, slG, ext1, augI, chn, leF, ltF, gtF, geF, enm, enmT, part, noPart, tupleF, listF]
  · simp only [U, HL]
    rcases hh with rfl | ⟨rfl, q⟩
    · simp [fnM, endF_ret, endF_nx, endF_exc, endF_stuck, fin, okB, wn_un, wn_d, wn_L, wn_M, wn_T, wn_O, wn_X, dat_un, dat_d, dat_L, dat_M, dat_T, dat_O, dat_X, bc, b0, ifS, ret, retN, My.set, sto, stoM, drp, asg, asB, asT, notT, andT, orT, op1, op2, opn, pk, ex, kd, rd, mv, frz, toS, arc, ar0, resAll, res_sl, res_dt, Option.bind_some, ixF, ixS, lenF, intF, strF, cmpF, addF, subF, mulF, modF, fdivF, eqF, neF, deq, truD, argsS, argS, sls, backS, rsB, callf, put_nm, put_tp, put_tl, puts_nil, puts_cons, lsc, ls0, lstG, tupG, forS, putC, itD, itsOf, itN, rng1, mut1, mut0, appF, Rs.bind_ok, Rs.bind_exc, Rs.bind_stuck, Rs.ctl_ok, Rs.ctl_exc, Rs.ctl_stuck, Rs.opt_some, Rs.opt_none, Ctl.then_nx, Ctl.then_ret, Ctl.then_exc, Ctl.then_brk, Ctl.then_cnt, Ctl.then_stuck, isN, notN, ifE, fldF, isF, List.lookup, clsOf, orr, callm, mkf, mkB, mk0, stf, slG, ext1, augI, chn, leF, ltF, gtF, geF, enm, enmT, part, noPart, tupleF, listF]
    · rw [q]; simp [fnM, endF_ret, endF_nx, endF_exc, endF_stuck, fin, okB, wn_un, wn_d, wn_L, wn_M, wn_T, wn_O, wn_X, dat_un, dat_d, dat_L, dat_M, dat_T, dat_O, dat_X, bc, b0, ifS, ret, retN, My.set, sto, stoM, drp, asg, asB, asT, notT, andT, orT, op1, op2, opn, pk, ex, kd, rd, mv, frz, toS, arc, ar0, resAll, res_sl, res_dt, Option.bind_some, ixF, ixS, lenF, intF, strF, cmpF, addF, subF, mulF, modF, fdivF, eqF, neF, deq, truD, argsS, argS, sls, backS, rsB, callf, put_nm, put_tp, put_tl, puts_nil, puts_cons, lsc, ls0, lstG, tupG, forS, putC, itD, itsOf, itN, rng1, mut1, mut0, appF, Rs.bind_ok, Rs.bind_exc, Rs.bind_stuck, Rs.ctl_ok, Rs.ctl_exc, Rs.ctl_stuck, Rs.opt_some, Rs.opt_none, Ctl.then_nx, Ctl.then_ret, Ctl.then_exc, Ctl.then_brk, Ctl.then_cnt, Ctl.then_stuck, isN, notN, ifE, fldF, isF, List.lookup, clsOf, orr, callm, mkf, mkB, mk0, stf, slG, ext1, augI, chn, leF, ltF, gtF, geF, enm, enmT, part, noPart, tupleF, listF]
  · simp only [U, FL]; simp [fnM, endF_ret, endF_nx, endF_exc, endF_stuck, fin, okB, wn_un, wn_d, wn_L, wn_M, wn_T, wn_O, wn_X, dat_un, dat_d, dat_L, dat_M, dat_T, dat_O, dat_X, bc, b0, ifS, ret, retN, My.set, sto, stoM, drp, asg, asB, asT, notT, andT, orT, op1, op2, opn, pk, ex, kd, rd, mv, frz, toS, arc, ar0, resAll, res_sl, res_dt, Option.bind_some, ixF, ixS, lenF, intF, strF, cmpF, addF, subF, mulF, modF, fdivF, eqF, neF, deq, truD, argsS, argS, sls, backS, rsB, callf, put_nm, put_tp, put_tl, puts_nil, puts_cons, lsc, ls0, lstG, tupG, forS, putC, itD, itsOf, itN, rng1, mut1, mut0, appF, Rs.bind_ok, Rs.bind_exc, Rs.bind_stuck, Rs.ctl_ok, Rs.ctl_exc, Rs.ctl_stuck, Rs.opt_some, Rs.opt_none, Ctl.then_nx, Ctl.then_ret, Ctl.then_exc, Ctl.then_brk, Ctl.then_cnt, Ctl.then_stuck, isN, notN, ifE, fldF, isF, List.lookup, clsOf, orr, callm, mkf, mkB, mk0, stf, slG, ext1, augI, chn, leF, ltF, gtF, geF, enm, enmT, part, noPart, tupleF, listF, c1]
  · simp only [U]
    cases l with
    | none => simp [leadL] at n1; simp [fnM, endF_ret, endF_nx, endF_exc, endF_stuck, fin, okB, wn_un, wn_d, wn_L, wn_M, wn_T, wn_O, wn_X, dat_un, dat_d, dat_L, dat_M, dat_T, dat_O, dat_X, bc, b0, ifS, ret, retN, My.set, sto, stoM, drp, asg, asB, asT, notT, andT, orT, op1, op2, opn, pk, ex, kd, rd, mv, frz, toS, arc, ar0, resAll, res_sl, res_dt, Option.bind_some, ixF, ixS, lenF, intF, strF, cmpF, addF, subF, mulF, modF, fdivF, eqF, neF, deq, truD, argsS, argS, sls, backS, rsB, callf, put_nm, put_tp, put_tl, puts_nil, puts_cons, lsc, ls0, lstG, tupG, forS, putC, itD, itsOf, itN, rng1, mut1, mut0, appF, Rs.bind_ok, Rs.bind_exc, Rs.bind_stuck, Rs.ctl_ok, Rs.ctl_exc, Rs.ctl_stuck, Rs.opt_some, Rs.opt_none, Ctl.then_nx, Ctl.then_ret, Ctl.then_exc, Ctl.then_brk, Ctl.then_cnt, Ctl.then_stuck, isN, notN, ifE, fldF, isF, List.lookup, clsOf, orr, callm, mkf, mkB, mk0, stf, slG, ext1, augI, chn, leF, ltF, gtF, geF, enm, enmT, part, noPart, tupleF, listF, leadD, n1]
    | some z => simp [leadL] at n1; simp [fnM, endF_ret, endF_nx, endF_exc, endF_stuck, fin, okB, wn_un, wn_d, wn_L, wn_M, wn_T, wn_O, wn_X, dat_un, dat_d, dat_L, dat_M, dat_T, dat_O, dat_X, bc, b0, ifS, ret, retN, My.set, sto, stoM, drp, asg, asB, asT, notT, andT, orT, op1, op2, opn, pk, ex, kd, rd, mv, frz, toS, arc, ar0, resAll, res_sl, res_dt, Option.bind_some, ixF, ixS, lenF, intF, strF, cmpF, addF, subF, mulF, modF, fdivF, eqF, neF, deq, truD, argsS, argS, sls, backS, rsB, callf, put_nm, put_tp, put_tl, puts_nil, puts_cons, lsc, ls0, lstG, tupG, forS, putC, itD, itsOf, itN, rng1, mut1, mut0, appF, Rs.bind_ok, Rs.bind_exc, Rs.bind_stuck, Rs.ctl_ok, Rs.ctl_exc, Rs.ctl_stuck, Rs.opt_some, Rs.opt_none, Ctl.then_nx, Ctl.then_ret, Ctl.then_exc, Ctl.then_brk, Ctl.then_cnt, Ctl.then_stuck, isN, notN, ifE, fldF, isF, List.lookup, clsOf, orr, callm, mkf, mkB, mk0, stf, slG, ext1, augI, chn, leF, ltF, gtF, geF, enm, enmT, part, noPart, tupleF, listF, leadD, n1]
  · simp only [U, FL]; simp [fnM, endF_ret, endF_nx, endF_exc, endF_stuck, fin, okB, wn_un, wn_d, wn_L, wn_M, wn_T, wn_O, wn_X, dat_un, dat_d, dat_L, dat_M, dat_T, dat_O, dat_X, bc, b0, ifS, ret, retN, My.set, sto, stoM, drp, asg, asB, asT, notT, andT, orT, op1, op2, opn, pk, ex, kd, rd, mv, frz, toS, arc, ar0, resAll, res_sl, res_dt, Option.bind_some, ixF, ixS, lenF, intF, strF, cmpF, addF, subF, mulF, modF, fdivF, eqF, neF, deq, truD, argsS, argS, sls, backS, rsB, callf, put_nm, put_tp, put_tl, puts_nil, puts_cons, lsc, ls0, lstG, tupG, forS, putC, itD, itsOf, itN, rng1, mut1, mut0, appF, Rs.bind_ok, Rs.bind_exc, Rs.bind_stuck, Rs.ctl_ok, Rs.ctl_exc, Rs.ctl_stuck, Rs.opt_some, Rs.opt_none, Ctl.then_nx, Ctl.then_ret, Ctl.then_exc, Ctl.then_brk, Ctl.then_cnt, Ctl.then_stuck, isN, notN, ifE, fldF, isF, List.lookup, clsOf, orr, callm, mkf, mkB, mk0, stf, slG, ext1, augI, chn, leF, ltF, gtF, geF, enm, enmT, part, noPart, tupleF, listF, n2]
  · simp only [U] at e2 ⊢; simp [fnM, endF_ret, endF_nx, endF_exc, endF_stuck, fin, okB, wn_un, wn_d, wn_L, wn_M, wn_T, wn_O, wn_X, dat_un, dat_d, dat_L, dat_M, dat_T, dat_O, dat_X, bc, b0, ifS, ret, retN, My.set, sto, stoM, drp, asg, asB, asT, notT, andT, orT, op1, op2, opn, pk, ex, kd, rd, mv, frz, toS, arc, ar0, resAll, res_sl, res_dt, Option.bind_some, ixF, ixS, lenF, intF, strF, cmpF, addF, subF, mulF, modF, fdivF, eqF, neF, deq, truD, argsS, argS, sls, backS, rsB, callf, put_nm, put_tp, put_tl, puts_nil, puts_cons, lsc, ls0, lstG, tupG, forS, putC, itD, itsOf, itN, rng1, mut1, mut0, appF, Rs.bind_ok, Rs.bind_exc, Rs.bind_stuck, Rs.ctl_ok, Rs.ctl_exc, Rs.ctl_stuck, Rs.opt_some, Rs.opt_none, Ctl.then_nx, Ctl.then_ret, Ctl.then_exc, Ctl.then_brk, Ctl.then_cnt, Ctl.then_stuck, isN, notN, ifE, fldF, isF, List.lookup, clsOf, orr, callm, mkf, mkB, mk0, stf, slG, ext1, augI, chn, leF, ltF, gtF, geF, enm, enmT, part, noPart, tupleF, listF, e2, n3, resE, wipeE]
  · simp only [U] at e4 ⊢
    generalize (hs.map (·.1)).map D.str = X at e4 n4
    simp [fnM, endF_ret, endF_nx, endF_exc, endF_stuck, fin, okB, wn_un, wn_d, wn_L, wn_M, wn_T, wn_O, wn_X, dat_un, dat_d, dat_L, dat_M, dat_T, dat_O, dat_X, bc, b0, ifS, ret, retN, My.set, sto, stoM, drp, asg, asB, asT, notT, andT, orT, op1, op2, opn, pk, ex, kd, rd, mv, frz, toS, arc, ar0, resAll, res_sl, res_dt, Option.bind_some, ixF, ixS, lenF, intF, strF, cmpF, addF, subF, mulF, modF, fdivF, eqF, neF, deq, truD, argsS, argS, sls, backS, rsB, callf, put_nm, put_tp, put_tl, puts_nil, puts_cons, lsc, ls0, lstG, tupG, forS, putC, itD, itsOf, itN, rng1, mut1, mut0, appF, Rs.bind_ok, Rs.bind_exc, Rs.bind_stuck, Rs.ctl_ok, Rs.ctl_exc, Rs.ctl_stuck, Rs.opt_some, Rs.opt_none, Ctl.then_nx, Ctl.then_ret, Ctl.then_exc, Ctl.then_brk, Ctl.then_cnt, Ctl.then_stuck, isN, notN, ifE, fldF, isF, List.lookup, clsOf, orr, callm, mkf, mkB, mk0, stf, slG, ext1, augI, chn, leF, ltF, gtF, geF, enm, enmT, part, noPart, tupleF, listF, e4, n4, resE, wipeE]
  · simp only [U]; simp [fnM, endF_ret, endF_nx, endF_exc, endF_stuck, fin, okB, wn_un, wn_d, wn_L, wn_M, wn_T, wn_O, wn_X, dat_un, dat_d, dat_L, dat_M, dat_T, dat_O, dat_X, bc, b0, ifS, ret, retN, My.set, sto, stoM, drp, asg, asB, asT, notT, andT, orT, op1, op2, opn, pk, ex, kd, rd, mv, frz, toS, arc, ar0, resAll, res_sl, res_dt, Option.bind_some, ixF, ixS, lenF, intF, strF, cmpF, addF, subF, mulF, modF, fdivF, eqF, neF, deq, truD, argsS, argS, sls, backS, rsB, callf, put_nm, put_tp, put_tl, puts_nil, puts_cons, lsc, ls0, lstG, tupG, forS, putC, itD, itsOf, itN, rng1, mut1, mut0, appF, Rs.bind_ok, Rs.bind_exc, Rs.bind_stuck, Rs.ctl_ok, Rs.ctl_exc, Rs.ctl_stuck, Rs.opt_some, Rs.opt_none, Ctl.then_nx, Ctl.then_ret, Ctl.then_exc, Ctl.then_brk, Ctl.then_cnt, Ctl.then_stuck, isN, notN, ifE, fldF, isF, List.lookup, clsOf, orr, callm, mkf, mkB, mk0, stf, slG, ext1, augI, chn, leF, ltF, gtF, geF, enm, enmT, part, noPart, tupleF, listF]
  · simp only [U, FL]
    have lf : (fs.map D.str).length ≤ 100000 := by rw [List.length_map]; omega
    generalize fs.map D.str = X at lf
    simp [fnM, endF_ret, endF_nx, endF_exc, endF_stuck, fin, okB, wn_un, wn_d, wn_L, wn_M, wn_T, wn_O, wn_X, dat_un, dat_d, dat_L, dat_M, dat_T, dat_O, dat_X, bc, b0, ifS, ret, retN, My.set, sto, stoM, drp, asg, asB, asT, notT, andT, orT, op1, op2, opn, pk, ex, kd, rd, mv, frz, toS, arc, ar0, resAll, res_sl, res_dt, Option.bind_some, ixF, ixS, lenF, intF, strF, cmpF, addF, subF, mulF, modF, fdivF, eqF, neF, deq, truD, argsS, argS, sls, backS, rsB, callf, put_nm, put_tp, put_tl, puts_nil, puts_cons, lsc, ls0, lstG, tupG, forS, putC, itD, itsOf, itN, rng1, mut1, mut0, appF, Rs.bind_ok, Rs.bind_exc, Rs.bind_stuck, Rs.ctl_ok, Rs.ctl_exc, Rs.ctl_stuck, Rs.opt_some, Rs.opt_none, Ctl.then_nx, Ctl.then_ret, Ctl.then_exc, Ctl.then_brk, Ctl.then_cnt, Ctl.then_stuck, isN, notN, ifE, fldF, isF, List.lookup, clsOf, orr, callm, mkf, mkB, mk0, stf, slG, ext1, augI, chn, leF, ltF, gtF, geF, enm, enmT, part, noPart, tupleF, listF, tupleF, lf]
  · have lh : (hs.map holdD).length ≤ 100000 := by rw [List.length_map]; omega
    simp only [U, qR] at e5 ⊢
    generalize hs.map holdD = X at lh e5
    simp [fnM, endF_ret, endF_nx, endF_exc, endF_stuck, fin, okB, wn_un, wn_d, wn_L, wn_M, wn_T, wn_O, wn_X, dat_un, dat_d, dat_L, dat_M, dat_T, dat_O, dat_X, bc, b0, ifS, ret, retN, My.set, sto, stoM, drp, asg, asB, asT, notT, andT, orT, op1, op2, opn, pk, ex, kd, rd, mv, frz, toS, arc, ar0, resAll, res_sl, res_dt, Option.bind_some, ixF, ixS, lenF, intF, strF, cmpF, addF, subF, mulF, modF, fdivF, eqF, neF, deq, truD, argsS, argS, sls, backS, rsB, callf, put_nm, put_tp, put_tl, puts_nil, puts_cons, lsc, ls0, lstG, tupG, forS, putC, itD, itsOf, itN, rng1, mut1, mut0, appF, Rs.bind_ok, Rs.bind_exc, Rs.bind_stuck, Rs.ctl_ok, Rs.ctl_exc, Rs.ctl_stuck, Rs.opt_some, Rs.opt_none, Ctl.then_nx, Ctl.then_ret, Ctl.then_exc, Ctl.then_brk, Ctl.then_cnt, Ctl.then_stuck, isN, notN, ifE, fldF, isF, List.lookup, clsOf, orr, callm, mkf, mkB, mk0, stf, slG, ext1, augI, chn, leF, ltF, gtF, geF, enm, enmT, part, noPart, tupleF, listF, e5, resE, wipeE, tupleF, lh]
/-! what is written of a question -/
def qHead : Option Str → List Str
  | none => []
  | some z => [("lead" : Str), z]
def qWith (fs : List Str) : List Str := fs.flatMap fun f => [("with" : Str), f]
def qHolds (hs : List (Str × Str)) : List Str := hs.flatMap fun h => [("holds" : Str), h.1, h.2]
def qParts (l : Option Str) (fs : List Str) (hs : List (Str × Str)) : List Str := qHead l ++ qWith fs ++ qHolds hs
def qText (l : Option Str) (fs : List Str) (hs : List (Str × Str)) : Str := if qParts l fs hs = [] then "any" else Txt.join " " (qParts l fs hs)
theorem qWith_len (fs : List Str) : (qWith fs).length = 2 * fs.length := by
  induction fs with
  | nil => rfl
  | cons f fs ih => simp only [qWith, List.flatMap_cons, List.length_append, List.length_cons, List.length_nil] at ih ⊢; omega
theorem qHolds_len (hs : List (Str × Str)) : (qHolds hs).length = 3 * hs.length := by
  induction hs with
  | nil => rfl
  | cons f fs ih => simp only [qHolds, List.flatMap_cons, List.length_append, List.length_cons, List.length_nil] at ih ⊢; omega
theorem qParts_len {l : Option Str} {fs : List Str} {hs : List (Str × Str)} : (qParts l fs hs).length ≤ 2 + 2 * fs.length + 3 * hs.length := by
  have a := qWith_len fs
  have b := qHolds_len hs
  have c : (qHead l).length ≤ 2 := by cases l <;> simp [qHead]
  unfold qParts
  simp only [List.length_append]; omega
theorem qParts_w {l : Option Str} {fs : List Str} {hs : List (Str × Str)} (ok : QOk l fs hs) : ∀ z ∈ qParts l fs hs, z = "lead" ∨ z = "with" ∨ z = "holds" ∨ Nm 10 z := fun z hz => by
  unfold qParts at hz
  rcases List.mem_append.mp hz with hz | hz
  · rcases List.mem_append.mp hz with hz | hz
    · cases l with
      | none => cases hz
      | some y =>
        simp only [qHead, List.mem_cons, List.not_mem_nil, or_false] at hz
        rcases hz with rfl | rfl
        · exact .inl rfl
        · exact .inr (.inr (.inr (ok.ln _ rfl)))
    · obtain ⟨f, h1, h2⟩ := List.mem_flatMap.mp hz
      simp only [List.mem_cons, List.not_mem_nil, or_false] at h2
      rcases h2 with rfl | rfl
      · exact .inr (.inl rfl)
      · exact .inr (.inr (.inr (ok.fn _ h1)))
  · obtain ⟨f, h1, h2⟩ := List.mem_flatMap.mp hz
    simp only [List.mem_cons, List.not_mem_nil, or_false] at h2
    rcases h2 with rfl | rfl | rfl
    · exact .inr (.inr (.inl rfl))
    · exact .inr (.inr (.inr (ok.hn _ h1).1))
    · exact .inr (.inr (.inr (ok.hn _ h1).2))
theorem qParts_10 {l : Option Str} {fs : List Str} {hs : List (Str × Str)} (ok : QOk l fs hs) : ∀ z ∈ qParts l fs hs, z.length ≤ 10 := fun z hz => by
  rcases qParts_w ok z hz with rfl | rfl | rfl | h
  · decide +kernel
  · decide +kernel
  · decide +kernel
  · exact h.2.1
theorem q_join {l : Option Str} {fs : List Str} {hs : List (Str × Str)} (ok : QOk l fs hs) : joinF " " (.lst ((qParts l fs hs).map .str)) = some (Txt.join " " (qParts l fs hs)) := by
  have sw := sum_w (qParts_10 ok)
  have pl := qParts_len (l := l) (fs := fs) (hs := hs)
  have h6 := ok.f6
  have h9 := ok.h9
  unfold joinF
  simp only [strs_map, Option.bind_some]
  have : (" " : Str).length = 1 := by decide +kernel
  rw [if_pos (by rw [this]; omega)]
theorem qWith_snoc (fs : List Str) (f : Str) : qWith (fs ++ [f]) = qWith fs ++ [("with" : Str), f] := by simp [qWith]
theorem qHolds_snoc (hs : List (Str × Str)) (h : Str × Str) : qHolds (hs ++ [h]) = qHolds hs ++ [("holds" : Str), h.1, h.2] := by simp [qHolds]
theorem take_snoc {α : Type} {l : List α} {i : Nat} {x : α} (h : l[i]? = some x) : l.take (i + 1) = l.take i ++ [x] := by
  rw [List.take_add_one, h]; rfl
theorem r_qrow {l : Option Str} {fs : List Str} {hs : List (Str × Str)} (ok : QOk l fs hs) {x0 : S} (h0 : x0.dat = some (.obj 0 (qR l fs hs))) : m_question_row [x0] = .ok (.d (.str (qText l fs hs))) [x0] := by
  have la := lead_ask l
  have h6 := ok.f6
  have h9 := ok.h9
  have jo := q_join ok
  have qw := qWith_len
  have qh := qHolds_len
  have hd2 : (qHead l).length ≤ 2 := by cases l <;> simp [qHead]
  obtain ⟨t, ss', e, rfl, rfl⟩ : ∃ t ss', m_question_row [x0] = .ok t ss' ∧ t = .d (.str (qText l fs hs)) ∧ ss' = [x0] := by
    unfold m_question_row
    refine rt_fn (by cases x0 <;> simp [S.dat] at h0 <;> simp [okB]) ?_
    let R (p : List Str) (a b c : S) : En := [x0, .L (p.map .str), a, b, c]
    show Rt (bc _ _ [x0, .un, .un, .un, .un]) _
    refine rt_bc (R (qHead l) .un .un .un) (by
      simp only [R, qR] at h0 ⊢
      cases l with
      | none => simp only [leadD] at h0; simp [fnM, endF_ret, endF_nx, endF_exc, endF_stuck, fin, okB, wn_un, wn_d, wn_L, wn_M, wn_T, wn_O, wn_X, dat_un, dat_d, dat_L, dat_M, dat_T, dat_O, dat_X, bc, b0, ifS, ret, retN, My.set, sto, stoM, drp, asg, asB, asT, notT, andT, orT, op1, op2, opn, pk, ex, kd, rd, mv, frz, toS, arc, ar0, resAll, res_sl, res_dt, Option.bind_some, ixF, ixS, lenF, intF, strF, cmpF, addF, subF, mulF, modF, fdivF, eqF, neF, deq, truD, argsS, argS, sls, backS, rsB, callf, put_nm, put_tp, put_tl, puts_nil, puts_cons, lsc, ls0, lstG, tupG, forS, putC, itD, itsOf, itN, rng1, mut1, mut0, appF, Rs.bind_ok, Rs.bind_exc, Rs.bind_stuck, Rs.ctl_ok, Rs.ctl_exc, Rs.ctl_stuck, Rs.opt_some, Rs.opt_none, Ctl.then_nx, Ctl.then_ret, Ctl.then_exc, Ctl.then_brk, Ctl.then_cnt, Ctl.then_stuck, isN, notN, ifE, fldF, isF, List.lookup, clsOf, orr, callm, mkf, mkB, mk0, stf, slG, ext1, augI, chn, leF, ltF, gtF, geF, enm, enmT, part, noPart, tupleF, listF, ifF, h0, qHead]
      | some z => simp only [leadD] at h0; simp [fnM, endF_ret, endF_nx, endF_exc, endF_stuck, fin, okB, wn_un, wn_d, wn_L, wn_M, wn_T, wn_O, wn_X, dat_un, dat_d, dat_L, dat_M, dat_T, dat_O, dat_X, bc, b0, ifS, ret, retN, My.set, sto, stoM, drp, asg, asB, asT, notT, andT, orT, op1, op2, opn, pk, ex, kd, rd, mv, frz, toS, arc, ar0, resAll, res_sl, res_dt, Option.bind_some, ixF, ixS, lenF, intF, strF, cmpF, addF, subF, mulF, modF, fdivF, eqF, neF, deq, truD, argsS, argS, sls, backS, rsB, callf, put_nm, put_tp, put_tl, puts_nil, puts_cons, lsc, ls0, lstG, tupG, forS, putC, itD, itsOf, itN, rng1, mut1, mut0, appF, Rs.bind_ok, Rs.bind_exc, Rs.bind_stuck, Rs.ctl_ok, Rs.ctl_exc, Rs.ctl_stuck, Rs.opt_some, Rs.opt_none, Ctl.then_nx, Ctl.then_ret, Ctl.then_exc, Ctl.then_brk, Ctl.then_cnt, Ctl.then_stuck, isN, notN, ifE, fldF, isF, List.lookup, clsOf, orr, callm, mkf, mkB, mk0, stf, slG, ext1, augI, chn, leF, ltF, gtF, geF, enm, enmT, part, noPart, tupleF, listF, ifF, h0, qHead]) ?_
    refine rt_for (fs.map .str) (fun i ρ => ∃ a, ρ = R (qHead l ++ qWith (fs.take i)) a .un .un) (ρ1 := R (qHead l) .un .un .un) (by
      simp only [R, qR] at h0 ⊢
      simp [fnM, endF_ret, endF_nx, endF_exc, endF_stuck, fin, okB, wn_un, wn_d, wn_L, wn_M, wn_T, wn_O, wn_X, dat_un, dat_d, dat_L, dat_M, dat_T, dat_O, dat_X, bc, b0, ifS, ret, retN, My.set, sto, stoM, drp, asg, asB, asT, notT, andT, orT, op1, op2, opn, pk, ex, kd, rd, mv, frz, toS, arc, ar0, resAll, res_sl, res_dt, Option.bind_some, ixF, ixS, lenF, intF, strF, cmpF, addF, subF, mulF, modF, fdivF, eqF, neF, deq, truD, argsS, argS, sls, backS, rsB, callf, put_nm, put_tp, put_tl, puts_nil, puts_cons, lsc, ls0, lstG, tupG, forS, putC, itD, itsOf, itN, rng1, mut1, mut0, appF, Rs.bind_ok, Rs.bind_exc, Rs.bind_stuck, Rs.ctl_ok, Rs.ctl_exc, Rs.ctl_stuck, Rs.opt_some, Rs.opt_none, Ctl.then_nx, Ctl.then_ret, Ctl.then_exc, Ctl.then_brk, Ctl.then_cnt, Ctl.then_stuck, isN, notN, ifE, fldF, isF, List.lookup, clsOf, orr, callm, mkf, mkB, mk0, stf, slG, ext1, augI, chn, leF, ltF, gtF, geF, enm, enmT, part, noPart, tupleF, listF, h0, itsOf]) ⟨.un, by simp [qWith]⟩ (fun i x ρ hx hi => ?_) (fun ρ' hi => ?_)
    · obtain ⟨a, rfl⟩ := hi
      rw [List.getElem?_map] at hx
      obtain ⟨f, e1, rfl⟩ := Option.map_eq_some_iff.mp hx
      have lt : (fs.take i).length ≤ 6 := by rw [List.length_take]; omega
      have ll : ((qHead l ++ qWith (fs.take i)).map D.str).length + 2 ≤ 100000 := by
        rw [List.length_map, List.length_append, qw]; omega
      have ex : ((qHead l ++ qWith (fs.take (i + 1))).map D.str) = (qHead l ++ qWith (fs.take i)).map .str ++ [.str "with", .str f] := by rw [take_snoc e1, qWith_snoc]; simp
      refine ⟨R (qHead l ++ qWith (fs.take i)) (.d (.str f)) .un .un, R (qHead l ++ qWith (fs.take (i + 1))) (.d (.str f)) .un .un, by simp only [R]; simp [put_nm], .inl ?_, _, rfl⟩
      simp only [R]
      rw [ex]
      generalize (qHead l ++ qWith (fs.take i)).map D.str = X at ll
      simp [fnM, endF_ret, endF_nx, endF_exc, endF_stuck, fin, okB, wn_un, wn_d, wn_L, wn_M, wn_T, wn_O, wn_X, dat_un, dat_d, dat_L, dat_M, dat_T, dat_O, dat_X, bc, b0, ifS, ret, retN, My.set, sto, stoM, drp, asg, asB, asT, notT, andT, orT, op1, op2, opn, pk, ex, kd, rd, mv, frz, toS, arc, ar0, resAll, res_sl, res_dt, Option.bind_some, ixF, ixS, lenF, intF, strF, cmpF, addF, subF, mulF, modF, fdivF, eqF, neF, deq, truD, argsS, argS, sls, backS, rsB, callf, put_nm, put_tp, put_tl, puts_nil, puts_cons, lsc, ls0, lstG, tupG, forS, putC, itD, itsOf, itN, rng1, mut1, mut0, appF, Rs.bind_ok, Rs.bind_exc, Rs.bind_stuck, Rs.ctl_ok, Rs.ctl_exc, Rs.ctl_stuck, Rs.opt_some, Rs.opt_none, Ctl.then_nx, Ctl.then_ret, Ctl.then_exc, Ctl.then_brk, Ctl.then_cnt, Ctl.then_stuck, isN, notN, ifE, fldF, isF, List.lookup, clsOf, orr, callm, mkf, mkB, mk0, stf, slG, ext1, augI, chn, leF, ltF, gtF, geF, enm, enmT, part, noPart, tupleF, listF, ll]
    obtain ⟨a, rfl⟩ := hi
    rw [List.length_map, List.take_length]
    refine rt_for (hs.map holdD) (fun i ρ => ∃ b c, ρ = R (qHead l ++ qWith fs ++ qHolds (hs.take i)) a b c) (ρ1 := R (qHead l ++ qWith fs) a .un .un) (by
      simp only [R, qR] at h0 ⊢
      simp [fnM, endF_ret, endF_nx, endF_exc, endF_stuck, fin, okB, wn_un, wn_d, wn_L, wn_M, wn_T, wn_O, wn_X, dat_un, dat_d, dat_L, dat_M, dat_T, dat_O, dat_X, bc, b0, ifS, ret, retN, My.set, sto, stoM, drp, asg, asB, asT, notT, andT, orT, op1, op2, opn, pk, ex, kd, rd, mv, frz, toS, arc, ar0, resAll, res_sl, res_dt, Option.bind_some, ixF, ixS, lenF, intF, strF, cmpF, addF, subF, mulF, modF, fdivF, eqF, neF, deq, truD, argsS, argS, sls, backS, rsB, callf, put_nm, put_tp, put_tl, puts_nil, puts_cons, lsc, ls0, lstG, tupG, forS, putC, itD, itsOf, itN, rng1, mut1, mut0, appF, Rs.bind_ok, Rs.bind_exc, Rs.bind_stuck, Rs.ctl_ok, Rs.ctl_exc, Rs.ctl_stuck, Rs.opt_some, Rs.opt_none, Ctl.then_nx, Ctl.then_ret, Ctl.then_exc, Ctl.then_brk, Ctl.then_cnt, Ctl.then_stuck, isN, notN, ifE, fldF, isF, List.lookup, clsOf, orr, callm, mkf, mkB, mk0, stf, slG, ext1, augI, chn, leF, ltF, gtF, geF, enm, enmT, part, noPart, tupleF, listF, h0, itsOf]) ⟨.un, .un, by simp [qHolds]⟩ (fun i x ρ hx hi => ?_) (fun ρ' hi => ?_)
    · obtain ⟨b, c, rfl⟩ := hi
      rw [List.getElem?_map] at hx
      obtain ⟨h, e1, rfl⟩ := Option.map_eq_some_iff.mp hx
      have lt : (hs.take i).length ≤ 1000 := by rw [List.length_take]; omega
      have ll : ((qHead l ++ qWith fs ++ qHolds (hs.take i)).map D.str).length + 3 ≤ 100000 := by
        rw [List.length_map, List.length_append, List.length_append, qw, qh]; omega
      have ex : ((qHead l ++ qWith fs ++ qHolds (hs.take (i + 1))).map D.str) = (qHead l ++ qWith fs ++ qHolds (hs.take i)).map .str ++ [.str "holds", .str h.1, .str h.2] := by rw [take_snoc e1, qHolds_snoc]; simp
      refine ⟨R (qHead l ++ qWith fs ++ qHolds (hs.take i)) a (.d (.str h.1)) (.d (.str h.2)), R (qHead l ++ qWith fs ++ qHolds (hs.take (i + 1))) a (.d (.str h.1)) (.d (.str h.2)), by simp only [R, holdD]; simp [put_tp, put_nm, puts_cons, puts_nil], .inl ?_, _, _, rfl⟩
      simp only [R]
      rw [ex]
      generalize (qHead l ++ qWith fs ++ qHolds (hs.take i)).map D.str = X at ll
      simp [fnM, endF_ret, endF_nx, endF_exc, endF_stuck, fin, okB, wn_un, wn_d, wn_L, wn_M, wn_T, wn_O, wn_X, dat_un, dat_d, dat_L, dat_M, dat_T, dat_O, dat_X, bc, b0, ifS, ret, retN, My.set, sto, stoM, drp, asg, asB, asT, notT, andT, orT, op1, op2, opn, pk, ex, kd, rd, mv, frz, toS, arc, ar0, resAll, res_sl, res_dt, Option.bind_some, ixF, ixS, lenF, intF, strF, cmpF, addF, subF, mulF, modF, fdivF, eqF, neF, deq, truD, argsS, argS, sls, backS, rsB, callf, put_nm, put_tp, put_tl, puts_nil, puts_cons, lsc, ls0, lstG, tupG, forS, putC, itD, itsOf, itN, rng1, mut1, mut0, appF, Rs.bind_ok, Rs.bind_exc, Rs.bind_stuck, Rs.ctl_ok, Rs.ctl_exc, Rs.ctl_stuck, Rs.opt_some, Rs.opt_none, Ctl.then_nx, Ctl.then_ret, Ctl.then_exc, Ctl.then_brk, Ctl.then_cnt, Ctl.then_stuck, isN, notN, ifE, fldF, isF, List.lookup, clsOf, orr, callm, mkf, mkB, mk0, stf, slG, ext1, augI, chn, leF, ltF, gtF, geF, enm, enmT, part, noPart, tupleF, listF, ll]
    obtain ⟨b, c, rfl⟩ := hi
    rw [List.length_map, List.take_length]
    have fx : ∀ s y, My.fin [x0] [x0, s, a, b, y] = [x0] := fun s y => by cases x0 <;> simp [My.fin, wn_un, wn_d, wn_L, wn_M, wn_T, wn_O, wn_X]
    show Rt (ret _ (R (qParts l fs hs) a b c)) _
    unfold qText
    by_cases hp : qParts l fs hs = []
    · rw [if_pos hp]
      refine rt_ret (s := .d (.str "any")) (ρ1 := R (qParts l fs hs) a b c) (by rw [hp]; simp only [R]; simp [fnM, endF_ret, endF_nx, endF_exc, endF_stuck, fin, okB, wn_un, wn_d, wn_L, wn_M, wn_T, wn_O, wn_X, dat_un, dat_d, dat_L, dat_M, dat_T, dat_O, dat_X, bc, b0, ifS, ret, retN, My.set, sto, stoM, drp, asg, asB, asT, notT, andT, orT, op1, op2, opn, pk, ex, kd, rd, mv, frz, toS, arc, ar0, resAll, res_sl, res_dt, Option.bind_some, ixF, ixS, lenF, intF, strF, cmpF, addF, subF, mulF, modF, fdivF, eqF, neF, deq, truD, argsS, argS, sls, backS, rsB, callf, put_nm, put_tp, put_tl, puts_nil, puts_cons, lsc, ls0, lstG, tupG, forS, putC, itD, itsOf, itN, rng1, mut1, mut0, appF, Rs.bind_ok, Rs.bind_exc, Rs.bind_stuck, Rs.ctl_ok, Rs.ctl_exc, Rs.ctl_stuck, Rs.opt_some, Rs.opt_none, Ctl.then_nx, Ctl.then_ret, Ctl.then_exc, Ctl.then_brk, Ctl.then_cnt, Ctl.then_stuck, isN, notN, ifE, fldF, isF, List.lookup, clsOf, orr, callm, mkf, mkB, mk0, stf, slG, ext1, augI, chn, leF, ltF, gtF, geF, enm, enmT, part, noPart, tupleF, listF, ifF]) ⟨rfl, fx _ _⟩
    · rw [if_neg hp]
      refine rt_ret (s := .d (.str (Txt.join " " (qParts l fs hs)))) (ρ1 := [x0, .d (.lst ((qParts l fs hs).map .str)), a, b, c]) (by
        simp only [R]
        have ne : (qParts l fs hs).map D.str ≠ [] := by simpa using hp
        generalize Txt.join " " (qParts l fs hs) = T at jo
        generalize (qParts l fs hs).map D.str = X at jo ne
        cases X with
        | nil => exact absurd rfl ne
        | cons y ys => simp [fnM, endF_ret, endF_nx, endF_exc, endF_stuck, fin, okB, wn_un, wn_d, wn_L, wn_M, wn_T, wn_O, wn_X, dat_un, dat_d, dat_L, dat_M, dat_T, dat_O, dat_X, bc, b0, ifS, ret, retN, My.set, sto, stoM, drp, asg, asB, asT, notT, andT, orT, op1, op2, opn, pk, ex, kd, rd, mv, frz, toS, arc, ar0, resAll, res_sl, res_dt, Option.bind_some, ixF, ixS, lenF, intF, strF, cmpF, addF, subF, mulF, modF, fdivF, eqF, neF, deq, truD, argsS, argS, sls, backS, rsB, callf, put_nm, put_tp, put_tl, puts_nil, puts_cons, lsc, ls0, lstG, tupG, forS, putC, itD, itsOf, itN, rng1, mut1, mut0, appF, Rs.bind_ok, Rs.bind_exc, Rs.bind_stuck, Rs.ctl_ok, Rs.ctl_exc, Rs.ctl_stuck, Rs.opt_some, Rs.opt_none, Ctl.then_nx, Ctl.then_ret, Ctl.then_exc, Ctl.then_brk, Ctl.then_cnt, Ctl.then_stuck, isN, notN, ifE, fldF, isF, List.lookup, clsOf, orr, callm, mkf, mkB, mk0, stf, slG, ext1, augI, chn, leF, ltF, gtF, geF, enm, enmT, part, noPart, tupleF, listF, ifF, joinG, jo]) ⟨rfl, fx _ _⟩
  exact e
/-! the groups behind a word -/
def grp (w : Str) (n : Nat) : List Str → Option (List (List Str) × List Str)
  | [] => some ([], [])
  | p :: r => if p = w then (if r.length < n then none else (grp w n (r.drop n)).map fun z => (r.take n :: z.1, z.2)) else some ([], p :: r)
termination_by ps => ps.length
decreasing_by simp only [List.length_drop, List.length_cons]; omega
def grpE (x2 : S) (w : Str) (n at_ : Nat) (acc : List (List Str)) (x : S) : En := [.d (.str w), .d (.int n), x2, .d (.int at_), .L (acc.map fun g => .lst (g.map .str)), x]
def grpC : En → Rs Bool := andT (asB (op2 ltF (pk 3) (ex (frz (opn lenF (arc (pk 2) ar0)))))) (asB (op2 eqF (ex (frz (op2 ixF (pk 2) (pk 3)))) (pk 0)))
def grpB : En → Ctl := bc (My.set 5 (slG (pk 2) (part (frz (op2 addF (pk 3) (ex (kd (.int 1)))))) (part (frz (op2 addF (ex (frz (op2 addF (pk 3) (ex (kd (.int 1)))))) (pk 1))))))
    (bc (ifS (asB (op2 ltF (ex (frz (opn lenF (arc (pk 5) ar0)))) (pk 1))) (rsx 4 1 (lsc (kd (.int 0)) ls0)) b0)
    (bc (drp (mut1 4 appF (rd 5)))
    (augI 3 (fun i j => i + j) (frz (op2 addF (ex (kd (.int 1))) (pk 1))))))
theorem grp_at {ps : List Str} {i : Nat} (h : i < ps.length) : ∃ p, ps[i]? = some p ∧ ps.drop i = p :: ps.drop (i + 1) ∧ ixF (.lst (ps.map .str)) (.int i) = some (.d (.str p)) := by
  obtain ⟨p, hp⟩ : ∃ p, ps[i]? = some p := ⟨_, List.getElem?_eq_getElem h⟩
  refine ⟨p, hp, by rw [List.drop_eq_getElem_cons h, (List.getElem?_eq_some_iff.mp hp).2], ?_⟩
  obtain ⟨x, e1, e2⟩ := atI_nn (xs := ps.map D.str) (i := (i : Int)) (by omega) (by rw [List.length_map]; omega)
  rw [Int.toNat_natCast, List.getElem?_map, hp] at e2
  cases e2
  show Option.map S.d _ = _
  rw [e1]; rfl
theorem grp_loop {ps : List Str} {x2 : S} (h2 : x2.dat = some (.lst (ps.map .str))) (w : Str) (n : Nat) (hn : n ≤ 10) (hl : ps.length ≤ 90000) : ∀ (k i : Nat) (acc : List (List Str)) (x : S), ps.length - i < k → i ≤ ps.length → acc.length + (ps.length - i) ≤ 90000 →
    match grp w n (ps.drop i) with
    | some (gs, q) => ∃ x', whL grpC grpB k (grpE x2 w n i acc x) = .nx (grpE x2 w n (ps.length - q.length) (acc ++ gs) x')
    | none => ∃ j a x', whL grpC grpB k (grpE x2 w n i acc x) = .exc 4 [.int 0] (grpE x2 w n j a x')
  | 0, i, acc, x, h, _, _ => absurd h (Nat.not_lt_zero _)
  | k + 1, i, acc, x, h, hi, ha => by
    have ln : lenF [.lst (ps.map D.str)] = some (sI ps.length) := by unfold lenF; simp only [List.length_map]
    by_cases c : i < ps.length
    · obtain ⟨p, hp, hd, ix⟩ := grp_at c
      rw [hd]
      unfold grp
      have e1 : grpC (grpE x2 w n i acc x) = .ok (decide (p = w)) (grpE x2 w n i acc x) := by
        have c' : (i : Int) < ps.length := by omega
        have lx : (ps.map D.str).length = ps.length := List.length_map _
        unfold grpC grpE
        generalize ps.map D.str = X at h2 lx ix
        simp [fnM, endF_ret, endF_nx, endF_exc, endF_stuck, fin, okB, wn_un, wn_d, wn_L, wn_M, wn_T, wn_O, wn_X, dat_un, dat_d, dat_L, dat_M, dat_T, dat_O, dat_X, bc, b0, ifS, ret, retN, My.set, sto, stoM, drp, asg, asB, asT, notT, andT, orT, op1, op2, opn, pk, ex, kd, rd, mv, frz, toS, arc, ar0, resAll, res_sl, res_dt, Option.bind_some, lenF, intF, strF, cmpF, subF, mulF, modF, fdivF, truD, argsS, argS, sls, backS, rsB, callf, put_nm, put_tp, put_tl, puts_nil, puts_cons, lsc, ls0, lstG, tupG, forS, putC, itD, itsOf, itN, rng1, mut1, mut0, appF, Rs.bind_ok, Rs.bind_exc, Rs.bind_stuck, Rs.ctl_ok, Rs.ctl_exc, Rs.ctl_stuck, Rs.opt_some, Rs.opt_none, Ctl.then_nx, Ctl.then_ret, Ctl.then_exc, Ctl.then_brk, Ctl.then_cnt, Ctl.then_stuck, ltF, h2, lx, ix, c, eqF, deq]
      by_cases hw : p = w
      · rw [if_pos hw]
        rw [decide_eq_true hw] at e1
        have t4 := cutX_two (ps.map D.str) (n := (i : Int) + 1) (m := (i : Int) + 1 + n) (by omega) (by omega)
        rw [show ((i : Int) + 1 + n - ((i : Int) + 1)).toNat = n by omega, show ((i : Int) + 1).toNat = i + 1 by omega, ← List.map_drop, ← List.map_take] at t4
        have sf : slF (.lst (ps.map D.str)) (some ((i : Int) + 1)) (some ((i : Int) + 1 + n)) = some (.L (((ps.drop (i + 1)).take n).map .str)) := by
          show some (S.L (cutD _ _ _)) = _
          rw [t4]
        have a1 : addF (.int (i : Int)) (.int 1) = some (sI ((i : Int) + 1)) := rfl
        have a2 : addF (.int ((i : Int) + 1)) (.int n) = some (sI ((i : Int) + 1 + n)) := rfl
        have b1 : (My.set 5 (slG (pk 2) (part (frz (op2 addF (pk 3) (ex (kd (.int 1)))))) (part (frz (op2 addF (ex (frz (op2 addF (pk 3) (ex (kd (.int 1)))))) (pk 1)))))) (grpE x2 w n i acc x) = .nx (grpE x2 w n i acc (.L (((ps.drop (i + 1)).take n).map .str))) := by
          unfold grpE
          generalize ((ps.drop (i + 1)).take n).map D.str = Y at sf
          generalize ps.map D.str = X at h2 sf
          simp [fnM, endF_ret, endF_nx, endF_exc, endF_stuck, fin, okB, wn_un, wn_d, wn_L, wn_M, wn_T, wn_O, wn_X, dat_un, dat_d, dat_L, dat_M, dat_T, dat_O, dat_X, bc, b0, ifS, ret, retN, My.set, sto, stoM, drp, asg, asB, asT, notT, andT, orT, op1, op2, opn, pk, ex, kd, rd, mv, frz, toS, arc, ar0, resAll, res_sl, res_dt, Option.bind_some, lenF, intF, strF, cmpF, subF, mulF, modF, fdivF, truD, argsS, argS, sls, backS, rsB, callf, put_nm, put_tp, put_tl, puts_nil, puts_cons, lsc, ls0, lstG, tupG, forS, putC, itD, itsOf, itN, rng1, mut1, mut0, appF, Rs.bind_ok, Rs.bind_exc, Rs.bind_stuck, Rs.ctl_ok, Rs.ctl_exc, Rs.ctl_stuck, Rs.opt_some, Rs.opt_none, Ctl.then_nx, Ctl.then_ret, Ctl.then_exc, Ctl.then_brk, Ctl.then_cnt, Ctl.then_stuck, slG, part, h2, sf, a1, a2]
        by_cases hs : (ps.drop (i + 1)).length < n
        · rw [if_pos hs]
          refine ⟨i, acc, .L (((ps.drop (i + 1)).take n).map .str), ?_⟩
          have lt : (((ps.drop (i + 1)).take n).map D.str).length < n := by rw [List.length_map, List.length_take]; omega
          have b2 : (bc (ifS (asB (op2 ltF (ex (frz (opn lenF (arc (pk 5) ar0)))) (pk 1))) (rsx 4 1 (lsc (kd (.int 0)) ls0)) b0)
    (bc (drp (mut1 4 appF (rd 5)))
    (augI 3 (fun i j => i + j) (frz (op2 addF (ex (kd (.int 1))) (pk 1)))))) (grpE x2 w n i acc (.L (((ps.drop (i + 1)).take n).map .str))) = .exc 4 [.int 0] (grpE x2 w n i acc (.L (((ps.drop (i + 1)).take n).map .str))) := by
            have lt' : ((((ps.drop (i + 1)).take n).map D.str).length : Int) < n := by omega
            unfold grpE
            generalize ((ps.drop (i + 1)).take n).map D.str = Y at lt'
            simp [fnM, endF_ret, endF_nx, endF_exc, endF_stuck, fin, okB, wn_un, wn_d, wn_L, wn_M, wn_T, wn_O, wn_X, dat_un, dat_d, dat_L, dat_M, dat_T, dat_O, dat_X, bc, b0, ifS, ret, retN, My.set, sto, stoM, drp, asg, asB, asT, notT, andT, orT, op1, op2, opn, pk, ex, kd, rd, mv, frz, toS, arc, ar0, resAll, res_sl, res_dt, Option.bind_some, ixF, ixS, lenF, intF, strF, cmpF, addF, subF, mulF, modF, fdivF, eqF, neF, deq, truD, argsS, argS, sls, backS, rsB, callf, put_nm, put_tp, put_tl, puts_nil, puts_cons, lsc, ls0, lstG, tupG, forS, putC, itD, itsOf, itN, rng1, mut1, mut0, appF, Rs.bind_ok, Rs.bind_exc, Rs.bind_stuck, Rs.ctl_ok, Rs.ctl_exc, Rs.ctl_stuck, Rs.opt_some, Rs.opt_none, Ctl.then_nx, Ctl.then_ret, Ctl.then_exc, Ctl.then_brk, Ctl.then_cnt, Ctl.then_stuck, isN, notN, ifE, fldF, isF, List.lookup, clsOf, orr, callm, mkf, mkB, mk0, stf, slG, ext1, augI, chn, leF, ltF, gtF, geF, enm, enmT, part, noPart, tupleF, listF, rsx, lt']
          have b3 : grpB (grpE x2 w n i acc x) = .exc 4 [.int 0] (grpE x2 w n i acc (.L (((ps.drop (i + 1)).take n).map .str))) := (bc_nx b1).trans b2
          show (Rs.ctl (grpC _) _) = _
          rw [e1]
          simp only [Rs.ctl_ok, if_true]
          rw [b3]
          rfl
        · rw [if_neg hs]
          have le : (((ps.drop (i + 1)).take n).map D.str).length = n := by rw [List.length_map, List.length_take]; omega
          rw [List.length_drop] at hs
          have b2 : (bc (ifS (asB (op2 ltF (ex (frz (opn lenF (arc (pk 5) ar0)))) (pk 1))) (rsx 4 1 (lsc (kd (.int 0)) ls0)) b0)
    (bc (drp (mut1 4 appF (rd 5)))
    (augI 3 (fun i j => i + j) (frz (op2 addF (ex (kd (.int 1))) (pk 1)))))) (grpE x2 w n i acc (.L (((ps.drop (i + 1)).take n).map .str))) = .nx (grpE x2 w n (i + 1 + n) (acc ++ [(ps.drop (i + 1)).take n]) (.d (.lst (((ps.drop (i + 1)).take n).map .str)))) := by
            have la : (acc.map fun g => D.lst (g.map .str)).length < 100000 := by rw [List.length_map]; omega
            have ea : ((acc ++ [(ps.drop (i + 1)).take n]).map fun g => D.lst (g.map .str)) = (acc.map fun g => D.lst (g.map .str)) ++ [.lst (((ps.drop (i + 1)).take n).map .str)] := by simp
            have ei : (((i + 1 + n : Nat)) : Int) = (i : Int) + (1 + n) := by omega
            unfold grpE
            rw [ea, ei]
            generalize (acc.map fun g => D.lst (g.map .str)) = A at la
            generalize ((ps.drop (i + 1)).take n).map D.str = Y at le
            simp [fnM, endF_ret, endF_nx, endF_exc, endF_stuck, fin, okB, wn_un, wn_d, wn_L, wn_M, wn_T, wn_O, wn_X, dat_un, dat_d, dat_L, dat_M, dat_T, dat_O, dat_X, bc, b0, ifS, ret, retN, My.set, sto, stoM, drp, asg, asB, asT, notT, andT, orT, op1, op2, opn, pk, ex, kd, rd, mv, frz, toS, arc, ar0, resAll, res_sl, res_dt, Option.bind_some, ixF, ixS, lenF, intF, strF, cmpF, addF, subF, mulF, modF, fdivF, eqF, neF, deq, truD, argsS, argS, sls, backS, rsB, callf, put_nm, put_tp, put_tl, puts_nil, puts_cons, lsc, ls0, lstG, tupG, forS, putC, itD, itsOf, itN, rng1, mut1, mut0, appF, Rs.bind_ok, Rs.bind_exc, Rs.bind_stuck, Rs.ctl_ok, Rs.ctl_exc, Rs.ctl_stuck, Rs.opt_some, Rs.opt_none, Ctl.then_nx, Ctl.then_ret, Ctl.then_exc, Ctl.then_brk, Ctl.then_cnt, Ctl.then_stuck, isN, notN, ifE, fldF, isF, List.lookup, clsOf, orr, callm, mkf, mkB, mk0, stf, slG, ext1, augI, chn, leF, ltF, gtF, geF, enm, enmT, part, noPart, tupleF, listF, le, la]
          have b3 : grpB (grpE x2 w n i acc x) = _ := (bc_nx b1).trans b2
          have ih := grp_loop h2 w n hn hl k (i + 1 + n) (acc ++ [(ps.drop (i + 1)).take n]) (.d (.lst (((ps.drop (i + 1)).take n).map .str))) (by omega) (by omega) (by simp only [List.length_append, List.length_singleton]; omega)
          rw [← List.drop_drop] at ih
          have st : ∀ r, whL grpC grpB k (grpE x2 w n (i + 1 + n) (acc ++ [(ps.drop (i + 1)).take n]) (.d (.lst (((ps.drop (i + 1)).take n).map .str)))) = r → whL grpC grpB (k + 1) (grpE x2 w n i acc x) = r := fun r hr => by
            show (Rs.ctl (grpC _) _) = _
            rw [e1]
            simp only [Rs.ctl_ok, if_true]
            rw [b3]
            exact hr
          cases hg : grp w n ((ps.drop (i + 1)).drop n) with
          | none =>
            rw [hg] at ih
            obtain ⟨j, a, x', q⟩ := ih
            exact ⟨j, a, x', st _ q⟩
          | some z =>
            obtain ⟨gs, q⟩ := z
            rw [hg] at ih
            obtain ⟨x', q1⟩ := ih
            refine ⟨x', (st _ q1).trans ?_⟩
            rw [List.append_assoc]; rfl
      · rw [if_neg hw]
        rw [decide_eq_false hw] at e1
        refine ⟨x, ?_⟩
        show (Rs.ctl (grpC _) _) = _
        rw [e1]
        simp only [Rs.ctl_ok, Bool.false_eq_true, if_false]
        rw [List.append_nil, show ps.length - (p :: ps.drop (i + 1)).length = i by rw [← hd, List.length_drop]; omega]
    · have : ps.drop i = [] := List.drop_eq_nil_iff.mpr (by omega)
      rw [this]
      unfold grp
      refine ⟨x, ?_⟩
      have e1 : grpC (grpE x2 w n i acc x) = .ok false (grpE x2 w n i acc x) := by
        have c' : ¬ (i : Int) < ps.length := by omega
        have lx : (ps.map D.str).length = ps.length := List.length_map _
        unfold grpC grpE
        generalize ps.map D.str = X at h2 lx
        simp [fnM, endF_ret, endF_nx, endF_exc, endF_stuck, fin, okB, wn_un, wn_d, wn_L, wn_M, wn_T, wn_O, wn_X, dat_un, dat_d, dat_L, dat_M, dat_T, dat_O, dat_X, bc, b0, ifS, ret, retN, My.set, sto, stoM, drp, asg, asB, asT, notT, andT, orT, op1, op2, opn, pk, ex, kd, rd, mv, frz, toS, arc, ar0, resAll, res_sl, res_dt, Option.bind_some, lenF, intF, strF, cmpF, subF, mulF, modF, fdivF, truD, argsS, argS, sls, backS, rsB, callf, put_nm, put_tp, put_tl, puts_nil, puts_cons, lsc, ls0, lstG, tupG, forS, putC, itD, itsOf, itN, rng1, mut1, mut0, appF, Rs.bind_ok, Rs.bind_exc, Rs.bind_stuck, Rs.ctl_ok, Rs.ctl_exc, Rs.ctl_stuck, Rs.opt_some, Rs.opt_none, Ctl.then_nx, Ctl.then_ret, Ctl.then_exc, Ctl.then_brk, Ctl.then_cnt, Ctl.then_stuck, ltF, h2, lx, c]
      show (Rs.ctl (grpC _) _) = _
      rw [e1]
      simp only [Rs.ctl_ok, Bool.false_eq_true, if_false]
      rw [List.append_nil, show ps.length - ([] : List Str).length = i by simp; omega]
/-! a question read -/
theorem r_groups {ps : List Str} {x2 : S} (h2 : x2 = .L (ps.map .str) ∨ x2 = .d (.lst (ps.map .str))) {w : Str} {n i : Nat} (hn : n ≤ 10) (hl : ps.length ≤ 90000) (hi : i ≤ ps.length) :
    match grp w n (ps.drop i) with
    | some (gs, q) => m_groups_of [.d (.str w), .d (.int n), x2, .d (.int i)] = .ok (.d (.tup [.lst (gs.map fun g => .lst (g.map .str)), .int ((ps.length - q.length : Nat))])) [.d (.str w), .d (.int n), x2, .d (.int i)]
    | none => m_groups_of [.d (.str w), .d (.int n), x2, .d (.int i)] = .exc 4 [.int 0] [.d (.str w), .d (.int n), x2, .d (.int i)] := by
  have h0 : x2.dat = some (.lst (ps.map .str)) := by rcases h2 with rfl | rfl <;> rfl
  have lp := grp_loop h0 w n hn hl 1000000 i [] .un (by omega) hi (by simp; omega)
  have ok : okB [0, 1, 2] 0 [.d (.str w), .d (.int n), x2, .d (.int i)] = true := by rcases h2 with rfl | rfl <;> simp [okB, wn_d, wn_L]
  have fx : ∀ j a x, My.fin [.d (.str w), .d (.int n), x2, .d (.int i)] (grpE x2 w n j a x) = [.d (.str w), .d (.int n), x2, .d (.int i)] := fun j a x => by
    unfold grpE
    rcases h2 with rfl | rfl <;> simp [My.fin, wn_un, wn_d, wn_L, wn_M, wn_T, wn_O, wn_X]
  have hb : m_groups_of [.d (.str w), .d (.int n), x2, .d (.int i)] = endF [.d (.str w), .d (.int n), x2, .d (.int i)] (bc (whL grpC grpB 1000000) (ret (tupG (lsc (rd 4) (lsc (rd 3) ls0)))) (grpE x2 w n i [] .un)) := by
    unfold m_groups_of fnM
    rw [if_pos ok]
    have : ([.d (.str w), .d (.int n), x2, .d (.int i)] ++ List.replicate (6 - [S.d (.str w), .d (.int n), x2, .d (.int i)].length) S.un : List S) = [.d (.str w), .d (.int n), x2, .d (.int i), .un, .un] := rfl
    rw [this]
    have b1 : (My.set 4 (lstG ls0)) [.d (.str w), .d (.int n), x2, .d (.int i), .un, .un] = .nx (grpE x2 w n i [] .un) := by unfold grpE; simp [fnM, endF_ret, endF_nx, endF_exc, endF_stuck, fin, okB, wn_un, wn_d, wn_L, wn_M, wn_T, wn_O, wn_X, dat_un, dat_d, dat_L, dat_M, dat_T, dat_O, dat_X, bc, b0, ifS, ret, retN, My.set, sto, stoM, drp, asg, asB, asT, notT, andT, orT, op1, op2, opn, pk, ex, kd, rd, mv, frz, toS, arc, ar0, resAll, res_sl, res_dt, Option.bind_some, ixF, ixS, lenF, intF, strF, cmpF, addF, subF, mulF, modF, fdivF, eqF, neF, deq, truD, argsS, argS, sls, backS, rsB, callf, put_nm, put_tp, put_tl, puts_nil, puts_cons, lsc, ls0, lstG, tupG, forS, putC, itD, itsOf, itN, rng1, mut1, mut0, appF, Rs.bind_ok, Rs.bind_exc, Rs.bind_stuck, Rs.ctl_ok, Rs.ctl_exc, Rs.ctl_stuck, Rs.opt_some, Rs.opt_none, Ctl.then_nx, Ctl.then_ret, Ctl.then_exc, Ctl.then_brk, Ctl.then_cnt, Ctl.then_stuck]
    exact congrArg _ (bc_nx b1)
  cases hg : grp w n (ps.drop i) with
  | none =>
    rw [hg] at lp
    obtain ⟨j, a, x', q⟩ := lp
    rw [hb]
    unfold bc
    rw [q]
    simp only [Ctl.then_exc, endF_exc]
    rw [fx]
  | some z =>
    obtain ⟨gs, q⟩ := z
    rw [hg] at lp
    obtain ⟨x', q1⟩ := lp
    rw [hb]
    unfold bc
    rw [q1]
    simp only [Ctl.then_nx, List.nil_append]
    have e9 : (ret (tupG (lsc (rd 4) (lsc (rd 3) ls0)))) (grpE x2 w n (ps.length - q.length) gs x') = .ret (.d (.tup [.lst (gs.map fun g => .lst (g.map .str)), .int ((ps.length - q.length : Nat))])) [.d (.str w), .d (.int n), x2, .d (.int ((ps.length - q.length : Nat))), .d (.lst (gs.map fun g => .lst (g.map .str))), x'] := by
      unfold grpE
      simp [fnM, endF_ret, endF_nx, endF_exc, endF_stuck, fin, okB, wn_un, wn_d, wn_L, wn_M, wn_T, wn_O, wn_X, dat_un, dat_d, dat_L, dat_M, dat_T, dat_O, dat_X, bc, b0, ifS, ret, retN, My.set, sto, stoM, drp, asg, asB, asT, notT, andT, orT, op1, op2, opn, pk, ex, kd, rd, mv, frz, toS, arc, ar0, resAll, res_sl, res_dt, Option.bind_some, ixF, ixS, lenF, intF, strF, cmpF, addF, subF, mulF, modF, fdivF, eqF, neF, deq, truD, argsS, argS, sls, backS, rsB, callf, put_nm, put_tp, put_tl, puts_nil, puts_cons, lsc, ls0, lstG, tupG, forS, putC, itD, itsOf, itN, rng1, mut1, mut0, appF, Rs.bind_ok, Rs.bind_exc, Rs.bind_stuck, Rs.ctl_ok, Rs.ctl_exc, Rs.ctl_stuck, Rs.opt_some, Rs.opt_none, Ctl.then_nx, Ctl.then_ret, Ctl.then_exc, Ctl.then_brk, Ctl.then_cnt, Ctl.then_stuck]
    rw [e9]
    simp only [endF_ret]
    congr 1
    rcases h2 with rfl | rfl <;> simp [My.fin, wn_un, wn_d, wn_L, wn_M, wn_T, wn_O, wn_X]
theorem grp_other {w : Str} {n : Nat} {ps : List Str} (h : ∀ p r, ps = p :: r → p ≠ w) : grp w n ps = some ([], ps) := by
  cases ps with
  | nil => unfold grp; rfl
  | cons p r => unfold grp; rw [if_neg (h p r rfl)]
theorem grp_runs {w : Str} {n : Nat} {q : List Str} (hq : ∀ p r, q = p :: r → p ≠ w) : ∀ gs : List (List Str), (∀ g ∈ gs, g.length = n) → grp w n (gs.flatMap (fun g => w :: g) ++ q) = some (gs, q)
  | [], _ => grp_other hq
  | g :: gs, h => by
    have lg := h g List.mem_cons_self
    have e : (g :: gs).flatMap (fun g => w :: g) ++ q = w :: (g ++ (gs.flatMap (fun g => w :: g) ++ q)) := by simp
    rw [e]
    unfold grp
    rw [if_pos rfl, if_neg (by simp only [List.length_append]; omega)]
    rw [List.drop_append_of_le_length (by omega), List.drop_eq_nil_iff.mpr (by omega), List.nil_append, grp_runs hq gs fun g' h' => h g' (List.mem_cons_of_mem _ h')]
    rw [List.take_append_of_le_length (by omega), List.take_of_length_le (by omega)]
    rfl
theorem heads (l : Option Str) : qHead l = ((leadL l).map fun z => [z]).flatMap fun g => ("lead" : Str) :: g := by cases l <;> rfl
theorem withs (fs : List Str) : qWith fs = (fs.map fun z => [z]).flatMap fun g => ("with" : Str) :: g := by
  unfold qWith
  rw [List.flatMap_map]
theorem holdss (hs : List (Str × Str)) : qHolds hs = (hs.map fun h => [h.1, h.2]).flatMap fun g => ("holds" : Str) :: g := by
  unfold qHolds
  rw [List.flatMap_map]
theorem words3 : (("lead" : Str) ≠ "with") ∧ (("lead" : Str) ≠ "holds") ∧ (("with" : Str) ≠ "holds") ∧ (("with" : Str) ≠ "lead") ∧ (("holds" : Str) ≠ "lead") ∧ (("holds" : Str) ≠ "with") := by decide +kernel
theorem with_head {fs : List Str} {hs : List (Str × Str)} : ∀ p r, qWith fs ++ qHolds hs = p :: r → p ≠ "lead" := fun p r e => by
  cases fs with
  | nil => cases hs with
    | nil => cases e
    | cons h hs => have : ("holds" : Str) = p := (List.cons.inj e).1; rw [← this]; exact words3.2.2.2.2.1
  | cons f fs => have : ("with" : Str) = p := (List.cons.inj e).1; rw [← this]; exact words3.2.2.2.1
theorem holds_head {hs : List (Str × Str)} : ∀ p r, qHolds hs = p :: r → p ≠ "with" := fun p r e => by
  cases hs with
  | nil => cases e
  | cons h hs => have : ("holds" : Str) = p := (List.cons.inj e).1; rw [← this]; exact words3.2.2.2.2.2
theorem grp_lead (l : Option Str) (fs : List Str) (hs : List (Str × Str)) : grp "lead" 1 (qParts l fs hs) = some ((leadL l).map (fun z => [z]), qWith fs ++ qHolds hs) := by
  unfold qParts
  rw [heads, List.append_assoc]
  exact grp_runs with_head _ fun g hg => by obtain ⟨z, _, rfl⟩ := List.mem_map.mp hg; rfl
theorem grp_with (fs : List Str) (hs : List (Str × Str)) : grp "with" 1 (qWith fs ++ qHolds hs) = some (fs.map (fun z => [z]), qHolds hs) := by
  rw [withs]
  exact grp_runs holds_head _ fun g hg => by obtain ⟨z, _, rfl⟩ := List.mem_map.mp hg; rfl
theorem grp_holds (hs : List (Str × Str)) : grp "holds" 2 (qHolds hs) = some (hs.map (fun h => [h.1, h.2]), []) := by
  have := grp_runs (w := "holds") (n := 2) (q := []) (fun p r e => by cases e) (hs.map fun h => [h.1, h.2]) fun g hg => by obtain ⟨z, _, rfl⟩ := List.mem_map.mp hg; rfl
  rw [List.append_nil] at this
  rw [holdss]; exact this
theorem nm_nobl {k : Nat} {z : Str} (h : Nm k z) : (32 : Nat) ∉ z.cps.toList := fun hc => absurd (h.2.2.2 32 hc) (by decide +kernel)
theorem q_split {l : Option Str} {fs : List Str} {hs : List (Str × Str)} (ok : QOk l fs hs) (hp : qParts l fs hs ≠ []) : Txt.split (Txt.join " " (qParts l fs hs)) " " = qParts l fs hs :=
  TL.split_join (y := " ") (s := 32) (S := []) (by decide +kernel) (by decide +kernel) hp fun p h => by
    rcases qParts_w ok p h with rfl | rfl | rfl | h
    · decide +kernel
    · decide +kernel
    · decide +kernel
    · exact nm_nobl h
theorem any_split : Txt.split "any" " " = [("any" : Str)] := by decide +kernel
theorem q_any {l : Option Str} {fs : List Str} {hs : List (Str × Str)} (ok : QOk l fs hs) (hp : qParts l fs hs ≠ []) : ¬ (Txt.join " " (qParts l fs hs) : Str) = "any" := fun e => by
  have s := q_split ok hp
  rw [e, any_split] at s
  have l1 : (qParts l fs hs).length = 1 := by rw [← s]; rfl
  unfold qParts at l1
  have a := qWith_len fs
  have b := qHolds_len hs
  have c : (qHead l).length = 0 ∨ (qHead l).length = 2 := by cases l <;> simp [qHead]
  simp only [List.length_append] at l1
  omega
theorem empty_no {l : Option Str} {fs : List Str} {hs : List (Str × Str)} (ok : QOk l fs hs) : ("" : Str) ∉ qParts l fs hs := fun h => by
  rcases qParts_w ok _ h with h | h | h | h
  · exact absurd h (by decide +kernel)
  · exact absurd h (by decide +kernel)
  · exact absurd h (by decide +kernel)
  · exact absurd h.1 (by decide +kernel)
theorem r_readq {l : Option Str} {fs : List Str} {hs : List (Str × Str)} (ok : QOk l fs hs) : m_read_question [.d (.str (qText l fs hs))] = .ok (.O 0 (qR l fs hs)) [.d (.str (qText l fs hs))] := by
  obtain ⟨t, ss', e, rfl, rfl⟩ : ∃ t ss', m_read_question [.d (.str (qText l fs hs))] = .ok t ss' ∧ t = .O 0 (qR l fs hs) ∧ ss' = [.d (.str (qText l fs hs))] := by
    unfold m_read_question
    refine rt_fn rfl ?_
    show Rt (bc _ _ [.d (.str (qText l fs hs)), .un, .un, .un, .un, .un, .un, .un]) _
    by_cases hp : qParts l fs hs = []
    · have hl : l = none := by cases l with | none => rfl | some z => simp [qParts, qHead] at hp
      have hf : fs = [] := by cases fs with | nil => rfl | cons f fs => simp [qParts, qWith] at hp
      have hh : hs = [] := by cases hs with | nil => rfl | cons f fs => simp [qParts, qHolds] at hp
      subst hl hf hh
      have eQ := r_Question (l := none) (fs := []) (hs := []) (xf := .non) (xh := .non) ⟨(fun _ h => by cases h), (by simp), (fun _ h => by cases h), (fun _ h => by cases h), (by simp), (by simp)⟩ (.inr ⟨rfl, rfl⟩) (.inr ⟨rfl, rfl⟩)
      have et : qText none [] [] = "any" := rfl
      rw [et]
      refine rt_if true (ρ1 := [.d (.str "any"), .un, .un, .un, .un, .un, .un, .un]) (by simp [fnM, endF_ret, endF_nx, endF_exc, endF_stuck, fin, okB, wn_un, wn_d, wn_L, wn_M, wn_T, wn_O, wn_X, dat_un, dat_d, dat_L, dat_M, dat_T, dat_O, dat_X, bc, b0, ifS, ret, retN, My.set, sto, stoM, drp, asg, asB, asT, notT, andT, orT, op1, op2, opn, pk, ex, kd, rd, mv, frz, toS, arc, ar0, resAll, res_sl, res_dt, Option.bind_some, ixF, ixS, lenF, intF, strF, cmpF, addF, subF, mulF, modF, fdivF, eqF, neF, deq, truD, argsS, argS, sls, backS, rsB, callf, put_nm, put_tp, put_tl, puts_nil, puts_cons, lsc, ls0, lstG, tupG, forS, putC, itD, itsOf, itN, rng1, mut1, mut0, appF, Rs.bind_ok, Rs.bind_exc, Rs.bind_stuck, Rs.ctl_ok, Rs.ctl_exc, Rs.ctl_stuck, Rs.opt_some, Rs.opt_none, Ctl.then_nx, Ctl.then_ret, Ctl.then_exc, Ctl.then_brk, Ctl.then_cnt, Ctl.then_stuck]) (fun _ => ?_) (fun z => nomatch z)
      exact rt_bret (s := .O 0 (qR none [] [])) (ρ1 := [.d (.str "any"), .un, .un, .un, .un, .un, .un, .un]) (by
        simp only [leadD] at eQ
        simp [fnM, endF_ret, endF_nx, endF_exc, endF_stuck, fin, okB, wn_un, wn_d, wn_L, wn_M, wn_T, wn_O, wn_X, dat_un, dat_d, dat_L, dat_M, dat_T, dat_O, dat_X, bc, b0, ifS, ret, retN, My.set, sto, stoM, drp, asg, asB, asT, notT, andT, orT, op1, op2, opn, pk, ex, kd, rd, mv, frz, toS, arc, ar0, resAll, res_sl, res_dt, Option.bind_some, ixF, ixS, lenF, intF, strF, cmpF, addF, subF, mulF, modF, fdivF, eqF, neF, deq, truD, argsS, argS, sls, backS, rsB, callf, put_nm, put_tp, put_tl, puts_nil, puts_cons, lsc, ls0, lstG, tupG, forS, putC, itD, itsOf, itN, rng1, mut1, mut0, appF, Rs.bind_ok, Rs.bind_exc, Rs.bind_stuck, Rs.ctl_ok, Rs.ctl_exc, Rs.ctl_stuck, Rs.opt_some, Rs.opt_none, Ctl.then_nx, Ctl.then_ret, Ctl.then_exc, Ctl.then_brk, Ctl.then_cnt, Ctl.then_stuck, isN, notN, ifE, fldF, isF, List.lookup, clsOf, orr, callm, mkf, mkB, mk0, stf, slG, ext1, augI, chn, leF, ltF, gtF, geF, enm, enmT, part, noPart, tupleF, listF, kan, eQ]) ⟨rfl, by simp [My.fin, wn_un, wn_d, wn_L, wn_M, wn_T, wn_O, wn_X]⟩
    have et : qText l fs hs = Txt.join " " (qParts l fs hs) := by unfold qText; rw [if_neg hp]
    have na := q_any ok hp
    have sp := q_split ok hp
    have pl := qParts_len (l := l) (fs := fs) (hs := hs)
    have h6 := ok.f6
    have h9 := ok.h9
    have jl : (Txt.join " " (qParts l fs hs)).length ≤ 90000 := by
      have a := join_ws_le (qParts l fs hs)
      have b := ws_sum (qParts l fs hs)
      have c := sum_w (qParts_10 ok)
      omega
    have ne := empty_no ok
    have g1 := grp_lead l fs hs
    have g2 := grp_with fs hs
    have g3 := grp_holds hs
    have d1 : (qParts l fs hs).drop (qHead l).length = qWith fs ++ qHolds hs := by unfold qParts; rw [List.append_assoc, List.drop_left]
    have d2 : (qParts l fs hs).drop ((qHead l).length + (qWith fs).length) = qHolds hs := by rw [← List.drop_drop, d1, List.drop_left]
    have ll : (qParts l fs hs).length = (qHead l).length + (qWith fs).length + (qHolds hs).length := by unfold qParts; simp only [List.length_append]
    rw [et]
    obtain ⟨T, hT⟩ : ∃ T, T = Txt.join " " (qParts l fs hs) := ⟨_, rfl⟩
    obtain ⟨PP, hPP⟩ : ∃ PP, PP = qParts l fs hs := ⟨_, rfl⟩
    rw [← hT, ← hPP] at sp
    rw [← hT] at na jl ⊢
    rw [← hPP] at ne g1 d1 d2 ll pl
    have e1 := r_groups (ps := PP) (x2 := .L (PP.map .str)) (.inl rfl) (w := "lead") (n := 1) (i := 0) (by decide) (by omega) (Nat.zero_le _)
    rw [List.drop_zero, g1] at e1
    have e2 := r_groups (ps := PP) (x2 := .L (PP.map .str)) (.inl rfl) (w := "with") (n := 1) (i := (qHead l).length) (by decide) (by omega) (by omega)
    rw [d1, g2] at e2
    have e3 := r_groups (ps := PP) (x2 := .L (PP.map .str)) (.inl rfl) (w := "holds") (n := 2) (i := (qHead l).length + (qWith fs).length) (by decide) (by omega) (by omega)
    rw [d2, g3] at e3
    simp only [List.length_append] at e1 e2 e3
    rw [show PP.length - ((qWith fs).length + (qHolds hs).length) = (qHead l).length by omega] at e1
    rw [show PP.length - (qHolds hs).length = (qHead l).length + (qWith fs).length by omega] at e2
    rw [show PP.length - ([] : List Str).length = PP.length by simp] at e3
    have mE : inF (.str "") (.lst (PP.map .str)) = some (sB false) := by rw [memS, decide_eq_false ne]
    obtain ⟨G1, hG1⟩ : ∃ G1, G1 = (((leadL l).map fun z => [z]).map fun g => D.lst (g.map .str)) := ⟨_, rfl⟩
    obtain ⟨G2, hG2⟩ : ∃ G2, G2 = ((fs.map fun z => [z]).map fun g => D.lst (g.map .str)) := ⟨_, rfl⟩
    obtain ⟨G3, hG3⟩ : ∃ G3, G3 = ((hs.map fun h => [h.1, h.2]).map fun g => D.lst (g.map .str)) := ⟨_, rfl⟩
    rw [← hG1] at e1
    rw [← hG2] at e2
    rw [← hG3] at e3
    have lx : (PP.map D.str).length = PP.length := List.length_map _
    obtain ⟨XP, hX⟩ : ∃ XP, XP = PP.map D.str := ⟨_, rfl⟩
    rw [← hX] at e1 e2 e3 mE lx
    have e1 : m_groups_of [.d (.str "lead"), .d (.int 1), .L XP, .d (.int 0)] = .ok (.d (.tup [.lst G1, .int ((qHead l).length : Nat)])) [.d (.str "lead"), .d (.int 1), .L XP, .d (.int 0)] := e1
    have e2 : m_groups_of [.d (.str "with"), .d (.int 1), .L XP, .d (.int ((qHead l).length : Nat))] = .ok (.d (.tup [.lst G2, .int ((qHead l).length + (qWith fs).length : Nat)])) [.d (.str "with"), .d (.int 1), .L XP, .d (.int ((qHead l).length : Nat))] := e2
    have e3 : m_groups_of [.d (.str "holds"), .d (.int 2), .L XP, .d (.int ((qHead l).length + (qWith fs).length : Nat))] = .ok (.d (.tup [.lst G3, .int (PP.length : Nat)])) [.d (.str "holds"), .d (.int 2), .L XP, .d (.int ((qHead l).length + (qWith fs).length : Nat))] := e3
    obtain ⟨i1, hi1⟩ : ∃ i1 : Int, i1 = ((qHead l).length : Nat) := ⟨_, rfl⟩
    obtain ⟨i2, hi2⟩ : ∃ i2 : Int, i2 = ((qHead l).length + (qWith fs).length : Nat) := ⟨_, rfl⟩
    rw [← hi1] at e1 e2
    rw [← hi2] at e2 e3
    let R (a b c d e f : S) : En := [.d (.str T), .L XP, a, b, c, d, e, f]
    refine rt_if false (ρ1 := [.d (.str T), .un, .un, .un, .un, .un, .un, .un]) (by simp [fnM, endF_ret, endF_nx, endF_exc, endF_stuck, fin, okB, wn_un, wn_d, wn_L, wn_M, wn_T, wn_O, wn_X, dat_un, dat_d, dat_L, dat_M, dat_T, dat_O, dat_X, bc, b0, ifS, ret, retN, My.set, sto, stoM, drp, asg, asB, asT, notT, andT, orT, op1, op2, opn, pk, ex, kd, rd, mv, frz, toS, arc, ar0, resAll, res_sl, res_dt, Option.bind_some, ixF, ixS, lenF, intF, strF, cmpF, addF, subF, mulF, modF, fdivF, eqF, neF, deq, truD, argsS, argS, sls, backS, rsB, callf, put_nm, put_tp, put_tl, puts_nil, puts_cons, lsc, ls0, lstG, tupG, forS, putC, itD, itsOf, itN, rng1, mut1, mut0, appF, Rs.bind_ok, Rs.bind_exc, Rs.bind_stuck, Rs.ctl_ok, Rs.ctl_exc, Rs.ctl_stuck, Rs.opt_some, Rs.opt_none, Ctl.then_nx, Ctl.then_ret, Ctl.then_exc, Ctl.then_brk, Ctl.then_cnt, Ctl.then_stuck, na]) (fun z => nomatch z) (fun _ => rt_b0 ?_)
    have hl2 : T.length + 2 ≤ 100000 := by omega
    have bl1 : ((" " : Str).length == 0) = false := by decide +kernel
    refine rt_bc (R .un .un .un .un .un .un) (by
      have sg : splitG (rd 0) (kd (.str " ")) [.d (.str T), .un, .un, .un, .un, .un, .un, .un] = .ok (.L XP) [.d (.str T), .un, .un, .un, .un, .un, .un, .un] := by
        unfold splitG rd kd
        simp only [List.getElem?_cons_zero, Rs.bind_ok]
        rw [if_pos ⟨bl1, hl2⟩, sp, hX]
      simp only [R, My.set, sg, Rs.ctl_ok]; rfl) ?_
    refine rt_if false (ρ1 := R .un .un .un .un .un .un) (by simp only [R]; simp [fnM, endF_ret, endF_nx, endF_exc, endF_stuck, fin, okB, wn_un, wn_d, wn_L, wn_M, wn_T, wn_O, wn_X, dat_un, dat_d, dat_L, dat_M, dat_T, dat_O, dat_X, bc, b0, ifS, ret, retN, My.set, sto, stoM, drp, asg, asB, asT, notT, andT, orT, op1, op2, opn, pk, ex, kd, rd, mv, frz, toS, arc, ar0, resAll, res_sl, res_dt, Option.bind_some, ixF, ixS, lenF, intF, strF, cmpF, addF, subF, mulF, modF, fdivF, eqF, neF, deq, truD, argsS, argS, sls, backS, rsB, callf, put_nm, put_tp, put_tl, puts_nil, puts_cons, lsc, ls0, lstG, tupG, forS, putC, itD, itsOf, itN, rng1, mut1, mut0, appF, Rs.bind_ok, Rs.bind_exc, Rs.bind_stuck, Rs.ctl_ok, Rs.ctl_exc, Rs.ctl_stuck, Rs.opt_some, Rs.opt_none, Ctl.then_nx, Ctl.then_ret, Ctl.then_exc, Ctl.then_brk, Ctl.then_cnt, Ctl.then_stuck, mE]) (fun z => nomatch z) (fun _ => rt_b0 ?_)
    refine rt_bc (R (.d (.lst G1)) (.d (.int i1)) .un .un .un .un) (by simp only [R]; simp [fnM, endF_ret, endF_nx, endF_exc, endF_stuck, fin, okB, wn_un, wn_d, wn_L, wn_M, wn_T, wn_O, wn_X, dat_un, dat_d, dat_L, dat_M, dat_T, dat_O, dat_X, bc, b0, ifS, ret, retN, My.set, sto, stoM, drp, asg, asB, asT, notT, andT, orT, op1, op2, opn, pk, ex, kd, rd, mv, frz, toS, arc, ar0, resAll, res_sl, res_dt, Option.bind_some, ixF, ixS, lenF, intF, strF, cmpF, addF, subF, mulF, modF, fdivF, eqF, neF, deq, truD, argsS, argS, sls, backS, rsB, callf, put_nm, put_tp, put_tl, puts_nil, puts_cons, lsc, ls0, lstG, tupG, forS, putC, itD, itsOf, itN, rng1, mut1, mut0, appF, Rs.bind_ok, Rs.bind_exc, Rs.bind_stuck, Rs.ctl_ok, Rs.ctl_exc, Rs.ctl_stuck, Rs.opt_some, Rs.opt_none, Ctl.then_nx, Ctl.then_ret, Ctl.then_exc, Ctl.then_brk, Ctl.then_cnt, Ctl.then_stuck, e1]) ?_
    refine rt_bc (R (.d (.lst G1)) (.d (.int i2)) (.d (.lst G2)) .un .un .un) (by simp only [R]; simp [fnM, endF_ret, endF_nx, endF_exc, endF_stuck, fin, okB, wn_un, wn_d, wn_L, wn_M, wn_T, wn_O, wn_X, dat_un, dat_d, dat_L, dat_M, dat_T, dat_O, dat_X, bc, b0, ifS, ret, retN, My.set, sto, stoM, drp, asg, asB, asT, notT, andT, orT, op1, op2, opn, pk, ex, kd, rd, mv, frz, toS, arc, ar0, resAll, res_sl, res_dt, Option.bind_some, ixF, ixS, lenF, intF, strF, cmpF, addF, subF, mulF, modF, fdivF, eqF, neF, deq, truD, argsS, argS, sls, backS, rsB, callf, put_nm, put_tp, put_tl, puts_nil, puts_cons, lsc, ls0, lstG, tupG, forS, putC, itD, itsOf, itN, rng1, mut1, mut0, appF, Rs.bind_ok, Rs.bind_exc, Rs.bind_stuck, Rs.ctl_ok, Rs.ctl_exc, Rs.ctl_stuck, Rs.opt_some, Rs.opt_none, Ctl.then_nx, Ctl.then_ret, Ctl.then_exc, Ctl.then_brk, Ctl.then_cnt, Ctl.then_stuck, e2]) ?_
    refine rt_bc (R (.d (.lst G1)) (.d (.int PP.length)) (.d (.lst G2)) (.d (.lst G3)) .un .un) (by simp only [R]; simp [fnM, endF_ret, endF_nx, endF_exc, endF_stuck, fin, okB, wn_un, wn_d, wn_L, wn_M, wn_T, wn_O, wn_X, dat_un, dat_d, dat_L, dat_M, dat_T, dat_O, dat_X, bc, b0, ifS, ret, retN, My.set, sto, stoM, drp, asg, asB, asT, notT, andT, orT, op1, op2, opn, pk, ex, kd, rd, mv, frz, toS, arc, ar0, resAll, res_sl, res_dt, Option.bind_some, ixF, ixS, lenF, intF, strF, cmpF, addF, subF, mulF, modF, fdivF, eqF, neF, deq, truD, argsS, argS, sls, backS, rsB, callf, put_nm, put_tp, put_tl, puts_nil, puts_cons, lsc, ls0, lstG, tupG, forS, putC, itD, itsOf, itN, rng1, mut1, mut0, appF, Rs.bind_ok, Rs.bind_exc, Rs.bind_stuck, Rs.ctl_ok, Rs.ctl_exc, Rs.ctl_stuck, Rs.opt_some, Rs.opt_none, Ctl.then_nx, Ctl.then_ret, Ctl.then_exc, Ctl.then_brk, Ctl.then_cnt, Ctl.then_stuck, e3]) ?_
    have lG : G1.length ≤ 1 := by rw [hG1]; cases l <;> simp [leadL]
    refine rt_if false (ρ1 := R (.d (.lst G1)) (.d (.int PP.length)) (.d (.lst G2)) (.d (.lst G3)) .un .un) (by
      have c1 : (G1.length : Int) ≤ 1 := by omega
      simp only [R]; simp [fnM, endF_ret, endF_nx, endF_exc, endF_stuck, fin, okB, wn_un, wn_d, wn_L, wn_M, wn_T, wn_O, wn_X, dat_un, dat_d, dat_L, dat_M, dat_T, dat_O, dat_X, bc, b0, ifS, ret, retN, My.set, sto, stoM, drp, asg, asB, asT, notT, andT, orT, op1, op2, opn, pk, ex, kd, rd, mv, frz, toS, arc, ar0, resAll, res_sl, res_dt, Option.bind_some, ixF, ixS, lenF, intF, strF, cmpF, addF, subF, mulF, modF, fdivF, eqF, neF, deq, truD, argsS, argS, sls, backS, rsB, callf, put_nm, put_tp, put_tl, puts_nil, puts_cons, lsc, ls0, lstG, tupG, forS, putC, itD, itsOf, itN, rng1, mut1, mut0, appF, Rs.bind_ok, Rs.bind_exc, Rs.bind_stuck, Rs.ctl_ok, Rs.ctl_exc, Rs.ctl_stuck, Rs.opt_some, Rs.opt_none, Ctl.then_nx, Ctl.then_ret, Ctl.then_exc, Ctl.then_brk, Ctl.then_cnt, Ctl.then_stuck, isN, notN, ifE, fldF, isF, List.lookup, clsOf, orr, callm, mkf, mkB, mk0, stf, slG, ext1, augI, chn, leF, ltF, gtF, geF, enm, enmT, part, noPart, tupleF, listF, lx, c1]) (fun z => nomatch z) (fun _ => rt_b0 ?_)
    refine rt_bc (R (.d (.lst G1)) (.d (.int PP.length)) (.d (.lst G2)) (.d (.lst G3)) (.d (leadD l)) .un) (by
      simp only [R]; rw [hG1]
      cases l with
      | none => simp [fnM, endF_ret, endF_nx, endF_exc, endF_stuck, fin, okB, wn_un, wn_d, wn_L, wn_M, wn_T, wn_O, wn_X, dat_un, dat_d, dat_L, dat_M, dat_T, dat_O, dat_X, bc, b0, ifS, ret, retN, My.set, sto, stoM, drp, asg, asB, asT, notT, andT, orT, op1, op2, opn, pk, ex, kd, rd, mv, frz, toS, arc, ar0, resAll, res_sl, res_dt, Option.bind_some, ixF, ixS, lenF, intF, strF, cmpF, addF, subF, mulF, modF, fdivF, eqF, neF, deq, truD, argsS, argS, sls, backS, rsB, callf, put_nm, put_tp, put_tl, puts_nil, puts_cons, lsc, ls0, lstG, tupG, forS, putC, itD, itsOf, itN, rng1, mut1, mut0, appF, Rs.bind_ok, Rs.bind_exc, Rs.bind_stuck, Rs.ctl_ok, Rs.ctl_exc, Rs.ctl_stuck, Rs.opt_some, Rs.opt_none, Ctl.then_nx, Ctl.then_ret, Ctl.then_exc, Ctl.then_brk, Ctl.then_cnt, Ctl.then_stuck, isN, notN, ifE, fldF, isF, List.lookup, clsOf, orr, callm, mkf, mkB, mk0, stf, slG, ext1, augI, chn, leF, ltF, gtF, geF, enm, enmT, part, noPart, tupleF, listF, L2.atI, L2.ixN, leadL, leadD]
      | some z => simp [fnM, endF_ret, endF_nx, endF_exc, endF_stuck, fin, okB, wn_un, wn_d, wn_L, wn_M, wn_T, wn_O, wn_X, dat_un, dat_d, dat_L, dat_M, dat_T, dat_O, dat_X, bc, b0, ifS, ret, retN, My.set, sto, stoM, drp, asg, asB, asT, notT, andT, orT, op1, op2, opn, pk, ex, kd, rd, mv, frz, toS, arc, ar0, resAll, res_sl, res_dt, Option.bind_some, ixF, ixS, lenF, intF, strF, cmpF, addF, subF, mulF, modF, fdivF, eqF, neF, deq, truD, argsS, argS, sls, backS, rsB, callf, put_nm, put_tp, put_tl, puts_nil, puts_cons, lsc, ls0, lstG, tupG, forS, putC, itD, itsOf, itN, rng1, mut1, mut0, appF, Rs.bind_ok, Rs.bind_exc, Rs.bind_stuck, Rs.ctl_ok, Rs.ctl_exc, Rs.ctl_stuck, Rs.opt_some, Rs.opt_none, Ctl.then_nx, Ctl.then_ret, Ctl.then_exc, Ctl.then_brk, Ctl.then_cnt, Ctl.then_stuck, isN, notN, ifE, fldF, isF, List.lookup, clsOf, orr, callm, mkf, mkB, mk0, stf, slG, ext1, augI, chn, leF, ltF, gtF, geF, enm, enmT, part, noPart, tupleF, listF, L2.atI, L2.ixN, leadL, leadD]) ?_
    let R9 : En := R (.d (.lst G1)) (.d (.int PP.length)) (.d (.lst G2)) (.d (.lst G3)) (.d (leadD l)) .un
    have c1 := lcG_mapA (m := itD (rd 4)) (t := .nm 7) (vs := [7]) (e := frz (op2 ixF (pk 7) (ex (kd (.int 0))))) (ρ := R9) (ρ1 := R9) (fun z => .lst [.str z]) D.str fs (by simp only [R9, R]; rw [hG2]; simp [fnM, endF_ret, endF_nx, endF_exc, endF_stuck, fin, okB, wn_un, wn_d, wn_L, wn_M, wn_T, wn_O, wn_X, dat_un, dat_d, dat_L, dat_M, dat_T, dat_O, dat_X, bc, b0, ifS, ret, retN, My.set, sto, stoM, drp, asg, asB, asT, notT, andT, orT, op1, op2, opn, pk, ex, kd, rd, mv, frz, toS, arc, ar0, resAll, res_sl, res_dt, Option.bind_some, ixF, ixS, lenF, intF, strF, cmpF, addF, subF, mulF, modF, fdivF, eqF, neF, deq, truD, argsS, argS, sls, backS, rsB, callf, put_nm, put_tp, put_tl, puts_nil, puts_cons, lsc, ls0, lstG, tupG, forS, putC, itD, itsOf, itN, rng1, mut1, mut0, appF, Rs.bind_ok, Rs.bind_exc, Rs.bind_stuck, Rs.ctl_ok, Rs.ctl_exc, Rs.ctl_stuck, Rs.opt_some, Rs.opt_none, Ctl.then_nx, Ctl.then_ret, Ctl.then_exc, Ctl.then_brk, Ctl.then_cnt, Ctl.then_stuck, itsOf]) (by omega) (fun z hz => ⟨R9.set 7 (.d (.lst [.str z])), R9.set 7 (.d (.lst [.str z])), rfl, by simp only [R9, R]; simp [fnM, endF_ret, endF_nx, endF_exc, endF_stuck, fin, okB, wn_un, wn_d, wn_L, wn_M, wn_T, wn_O, wn_X, dat_un, dat_d, dat_L, dat_M, dat_T, dat_O, dat_X, bc, b0, ifS, ret, retN, My.set, sto, stoM, drp, asg, asB, asT, notT, andT, orT, op1, op2, opn, pk, ex, kd, rd, mv, frz, toS, arc, ar0, resAll, res_sl, res_dt, Option.bind_some, ixF, ixS, lenF, intF, strF, cmpF, addF, subF, mulF, modF, fdivF, eqF, neF, deq, truD, argsS, argS, sls, backS, rsB, callf, put_nm, put_tp, put_tl, puts_nil, puts_cons, lsc, ls0, lstG, tupG, forS, putC, itD, itsOf, itN, rng1, mut1, mut0, appF, Rs.bind_ok, Rs.bind_exc, Rs.bind_stuck, Rs.ctl_ok, Rs.ctl_exc, Rs.ctl_stuck, Rs.opt_some, Rs.opt_none, Ctl.then_nx, Ctl.then_ret, Ctl.then_exc, Ctl.then_brk, Ctl.then_cnt, Ctl.then_stuck, L2.atI, L2.ixN], rfl⟩)
    have c2 := lcG_mapA (m := itD (rd 5)) (t := .nm 7) (vs := [7]) (e := frz (tupG (lsc (frz (op2 ixF (pk 7) (ex (kd (.int 0))))) (lsc (frz (op2 ixF (pk 7) (ex (kd (.int 1))))) ls0)))) (ρ := R9) (ρ1 := R9) (fun h => .lst [.str h.1, .str h.2]) holdD hs (by simp only [R9, R]; rw [hG3]; simp [fnM, endF_ret, endF_nx, endF_exc, endF_stuck, fin, okB, wn_un, wn_d, wn_L, wn_M, wn_T, wn_O, wn_X, dat_un, dat_d, dat_L, dat_M, dat_T, dat_O, dat_X, bc, b0, ifS, ret, retN, My.set, sto, stoM, drp, asg, asB, asT, notT, andT, orT, op1, op2, opn, pk, ex, kd, rd, mv, frz, toS, arc, ar0, resAll, res_sl, res_dt, Option.bind_some, ixF, ixS, lenF, intF, strF, cmpF, addF, subF, mulF, modF, fdivF, eqF, neF, deq, truD, argsS, argS, sls, backS, rsB, callf, put_nm, put_tp, put_tl, puts_nil, puts_cons, lsc, ls0, lstG, tupG, forS, putC, itD, itsOf, itN, rng1, mut1, mut0, appF, Rs.bind_ok, Rs.bind_exc, Rs.bind_stuck, Rs.ctl_ok, Rs.ctl_exc, Rs.ctl_stuck, Rs.opt_some, Rs.opt_none, Ctl.then_nx, Ctl.then_ret, Ctl.then_exc, Ctl.then_brk, Ctl.then_cnt, Ctl.then_stuck, itsOf]) (by omega) (fun z hz => ⟨R9.set 7 (.d (.lst [.str z.1, .str z.2])), R9.set 7 (.d (.lst [.str z.1, .str z.2])), rfl, by simp only [R9, R, holdD]; simp [fnM, endF_ret, endF_nx, endF_exc, endF_stuck, fin, okB, wn_un, wn_d, wn_L, wn_M, wn_T, wn_O, wn_X, dat_un, dat_d, dat_L, dat_M, dat_T, dat_O, dat_X, bc, b0, ifS, ret, retN, My.set, sto, stoM, drp, asg, asB, asT, notT, andT, orT, op1, op2, opn, pk, ex, kd, rd, mv, frz, toS, arc, ar0, resAll, res_sl, res_dt, Option.bind_some, ixF, ixS, lenF, intF, strF, cmpF, addF, subF, mulF, modF, fdivF, eqF, neF, deq, truD, argsS, argS, sls, backS, rsB, callf, put_nm, put_tp, put_tl, puts_nil, puts_cons, lsc, ls0, lstG, tupG, forS, putC, itD, itsOf, itN, rng1, mut1, mut0, appF, Rs.bind_ok, Rs.bind_exc, Rs.bind_stuck, Rs.ctl_ok, Rs.ctl_exc, Rs.ctl_stuck, Rs.opt_some, Rs.opt_none, Ctl.then_nx, Ctl.then_ret, Ctl.then_exc, Ctl.then_brk, Ctl.then_cnt, Ctl.then_stuck, L2.atI, L2.ixN], rfl⟩)
    have eQ := r_Question ok (xf := .lst (fs.map .str)) (xh := .lst (hs.map holdD)) (.inl rfl) (.inl rfl)
    generalize fs.map D.str = XF at c1 eQ
    generalize hs.map holdD = XH at c2 eQ
    refine rt_ret (s := .O 0 (qR l fs hs)) (ρ1 := R9) (by
      simp only [R9, R] at c1 c2 ⊢
      generalize leadD l = XL at c1 c2 eQ
      simp [fnM, endF_ret, endF_nx, endF_exc, endF_stuck, fin, okB, wn_un, wn_d, wn_L, wn_M, wn_T, wn_O, wn_X, dat_un, dat_d, dat_L, dat_M, dat_T, dat_O, dat_X, bc, b0, ifS, ret, retN, My.set, sto, stoM, drp, asg, asB, asT, notT, andT, orT, op1, op2, opn, pk, ex, kd, rd, mv, frz, toS, arc, ar0, resAll, res_sl, res_dt, Option.bind_some, ixF, ixS, lenF, intF, strF, cmpF, addF, subF, mulF, modF, fdivF, eqF, neF, deq, truD, argsS, argS, sls, backS, rsB, callf, put_nm, put_tp, put_tl, puts_nil, puts_cons, lsc, ls0, lstG, tupG, forS, putC, itD, itsOf, itN, rng1, mut1, mut0, appF, Rs.bind_ok, Rs.bind_exc, Rs.bind_stuck, Rs.ctl_ok, Rs.ctl_exc, Rs.ctl_stuck, Rs.opt_some, Rs.opt_none, Ctl.then_nx, Ctl.then_ret, Ctl.then_exc, Ctl.then_brk, Ctl.then_cnt, Ctl.then_stuck, isN, notN, ifE, fldF, isF, List.lookup, clsOf, orr, callm, mkf, mkB, mk0, stf, slG, ext1, augI, chn, leF, ltF, gtF, geF, enm, enmT, part, noPart, tupleF, listF, c1, c2, resE, wipeE, eQ]) ⟨rfl, by simp only [R9, R]; simp [My.fin, wn_un, wn_d, wn_L, wn_M, wn_T, wn_O, wn_X]⟩
  exact e


-- NOMD
/-! ### numbers as texts, moves -/
theorem nT_l (n : Nat) : (nT n).cps.toList = TL.numL n := TL.tl_num n
theorem numL_head {n : Nat} : ∀ {c : Nat} {r : List Nat}, TL.numL n = c :: r → (c = 48 → n = 0) := by
  induction n using Nat.strongRecOn with
  | _ n ih =>
    intro c r e hc
    by_cases h : n < 10
    · rw [TL.numL_lt h] at e
      cases e
      omega
    · have h10 : 10 ≤ n := by omega
      rw [TL.numL_step h10] at e
      cases hq : TL.numL (n / 10) with
      | nil => exact absurd hq (TL.numL_ne _)
      | cons d t =>
        rw [hq] at e
        have : d = c := by simpa using (List.cons.inj e).1
        have := ih (n / 10) (by omega) hq (by omega)
        omega
theorem in_figs {c : Nat} (h : 48 ≤ c ∧ c ≤ 57) : inF (.str ⟨#[c]⟩) (.str "0123456789") = some (sB true) := by
  unfold inF memF
  have : (⟨#[c]⟩ : Str).length = 1 := rfl
  have m : c ∈ ("0123456789" : Str).cps.toList := by
    have e : ("0123456789" : Str).cps.toList = [48, 49, 50, 51, 52, 53, 54, 55, 56, 57] := by decide +kernel
    rw [e]
    simp only [List.mem_cons, List.not_mem_nil, or_false]
    omega
  simp [this, show c ∈ ("0123456789" : Str).cps from by simpa using m]
theorem all_true (n : Nat) : allF [.lst (List.replicate n (D.bl true))] = some (sB true) := by
  have key : ∀ n : Nat, blsOf (List.replicate n (D.bl true)) = some (List.replicate n true) := fun n => by
    induction n with
    | zero => rfl
    | succ n ih => rw [List.replicate_succ]; show (blsOf _).map _ = _; rw [ih]; rfl
  unfold allF
  simp only [key]
  simp
theorem zero_l : ("0" : Str).cps.toList = [48] := by decide +kernel
theorem str_ext {x y : Str} (h : x.cps.toList = y.cps.toList) : x = y := by
  cases x; cases y
  simp only [Str.mk.injEq]
  exact Array.toList_inj.mp h
theorem r_number {n : Nat} (hn : n < 10 ^ 9) : m_read_number [.d (.str (nT n))] = .ok (.d (.int n)) [.d (.str (nT n))] := by
  have hl := nT_l n
  have l9 : (TL.numL n).length ≤ 9 := TL.numL_len (by decide) hn
  have ne := TL.numL_ne n
  have dg := TL.numL_digits n
  have iv : intText? (nT n) = some (n : Int) := TL.int_num (by omega)
  obtain ⟨c, r, hc⟩ : ∃ c r, TL.numL n = c :: r := by
    cases q : TL.numL n with
    | nil => exact absurd q ne
    | cons c r => exact ⟨c, r, rfl⟩
  have zl : (nT n).length = (TL.numL n).length := by rw [← hl]; rfl
  have zp : 1 ≤ (nT n).length := by rw [zl, hc]; simp
  have z9 : (nT n).length ≤ 9 := by omega
  have a0 : ixF (.str (nT n)) (.int 0) = some (.d (.str ⟨#[c]⟩)) := by
    have : L2.atI (nT n).cps.toList 0 = some c := by rw [hl, hc]; unfold L2.atI L2.ixN; simp
    unfold ixF ixS
    simp only [if_pos (show (nT n).length ≤ 100000 by omega), this, Option.map_some]
  have h0 : decide ((⟨#[c]⟩ : Str) = "0") = true → n = 0 := fun h => by
    have e := of_decide_eq_true h
    have : (⟨#[c]⟩ : Str).cps.toList = [48] := by rw [e]; exact zero_l
    have : c = 48 := by simpa using this
    exact numL_head hc this
  have h1 : n = 0 → nT n = "0" := fun h => by
    subst h
    apply str_ext
    rw [nT_l, zero_l, TL.numL_lt (by decide)]
  have cond : (decide ((⟨#[c]⟩ : Str) = "0") && !decide (nT n = "0")) = false := by
    cases q : decide ((⟨#[c]⟩ : Str) = "0") with
    | false => rfl
    | true => simp [h1 (h0 q)]
  obtain ⟨z, hz⟩ : ∃ z, z = nT n := ⟨_, rfl⟩
  have dz : ∀ c ∈ z.cps.toList, 48 ≤ c ∧ c ≤ 57 := fun c hc => by rw [hz, hl] at hc; exact dg c hc
  rw [← hz] at a0 cond zp z9 iv ⊢
  have l1 : (1 : Int) ≤ z.length := by omega
  have l2 : (z.length : Int) ≤ 9 := by omega
  have l0 : z.length ≤ 100000 := by omega
  have l6 : z.length ≤ 640 := by omega
  obtain ⟨s, ss', e9, rfl, rfl⟩ : ∃ s ss', m_read_number [.d (.str z)] = .ok s ss' ∧ s = .d (.int n) ∧ ss' = [.d (.str z)] := by
    unfold m_read_number
    refine rt_fn rfl ?_
    have lc := lcG_map (m := itD (rd 0)) (t := .nm 1) (vs := [1]) (e := frz (op2 inF (pk 1) (ex (kd (.str "0123456789"))))) (its := chrs z) (ρ := [.d (.str z), .un]) (ρ1 := [.d (.str z), .un]) (fun _ => .bl true) (by simp [fnM, endF_ret, endF_nx, endF_exc, endF_stuck, fin, okB, wn_un, wn_d, wn_L, wn_M, wn_T, wn_O, wn_X, dat_un, dat_d, dat_L, dat_M, dat_T, dat_O, dat_X, bc, b0, ifS, ret, retN, My.set, sto, stoM, drp, asg, asB, asT, notT, andT, orT, op1, op2, opn, pk, ex, kd, rd, mv, frz, toS, arc, ar0, resAll, res_sl, res_dt, Option.bind_some, ixF, ixS, lenF, intF, strF, cmpF, addF, subF, mulF, modF, fdivF, eqF, neF, deq, truD, argsS, argS, sls, backS, rsB, callf, put_nm, put_tp, put_tl, puts_nil, puts_cons, lsc, ls0, lstG, tupG, forS, putC, itD, itsOf, itN, rng1, mut1, mut0, appF, Rs.bind_ok, Rs.bind_exc, Rs.bind_stuck, Rs.ctl_ok, Rs.ctl_exc, Rs.ctl_stuck, Rs.opt_some, Rs.opt_none, Ctl.then_nx, Ctl.then_ret, Ctl.then_exc, Ctl.then_brk, Ctl.then_cnt, Ctl.then_stuck, l0]) (by rw [chrs_len]; exact l0) (fun x hx => by
      obtain ⟨d, hd, rfl⟩ := List.mem_map.mp hx
      exact ⟨_, [.d (.str z), .d (.str ⟨#[d]⟩)], rfl, by simp [fnM, endF_ret, endF_nx, endF_exc, endF_stuck, fin, okB, wn_un, wn_d, wn_L, wn_M, wn_T, wn_O, wn_X, dat_un, dat_d, dat_L, dat_M, dat_T, dat_O, dat_X, bc, b0, ifS, ret, retN, My.set, sto, stoM, drp, asg, asB, asT, notT, andT, orT, op1, op2, opn, pk, ex, kd, rd, mv, frz, toS, arc, ar0, resAll, res_sl, res_dt, Option.bind_some, ixF, ixS, lenF, intF, strF, cmpF, addF, subF, mulF, modF, fdivF, eqF, neF, deq, truD, argsS, argS, sls, backS, rsB, callf, put_nm, put_tp, put_tl, puts_nil, puts_cons, lsc, ls0, lstG, tupG, forS, putC, itD, itsOf, itN, rng1, mut1, mut0, appF, Rs.bind_ok, Rs.bind_exc, Rs.bind_stuck, Rs.ctl_ok, Rs.ctl_exc, Rs.ctl_stuck, Rs.opt_some, Rs.opt_none, Ctl.then_nx, Ctl.then_ret, Ctl.then_exc, Ctl.then_brk, Ctl.then_cnt, Ctl.then_stuck, wipeE, in_figs (dz d hd)], rfl⟩)
    rw [List.map_const'] at lc
    have al := all_true (chrs z).length
    refine rt_if false (ρ1 := [.d (.str z), .un]) (by
      generalize (chrs z).length = m at lc al
      simp [fnM, endF_ret, endF_nx, endF_exc, endF_stuck, fin, okB, wn_un, wn_d, wn_L, wn_M, wn_T, wn_O, wn_X, dat_un, dat_d, dat_L, dat_M, dat_T, dat_O, dat_X, bc, b0, ifS, ret, retN, My.set, sto, stoM, drp, asg, asB, asT, notT, andT, orT, op1, op2, opn, pk, ex, kd, rd, mv, frz, toS, arc, ar0, resAll, res_sl, res_dt, Option.bind_some, lenF, intF, strF, cmpF, addF, subF, mulF, modF, fdivF, eqF, neF, deq, truD, argsS, argS, sls, backS, rsB, callf, put_nm, put_tp, put_tl, puts_nil, puts_cons, lsc, ls0, lstG, tupG, forS, putC, itD, itsOf, itN, rng1, mut1, mut0, appF, Rs.bind_ok, Rs.bind_exc, Rs.bind_stuck, Rs.ctl_ok, Rs.ctl_exc, Rs.ctl_stuck, Rs.opt_some, Rs.opt_none, Ctl.then_nx, Ctl.then_ret, Ctl.then_exc, Ctl.then_brk, Ctl.then_cnt, Ctl.then_stuck, chn, leF, l0, l1, l2, lc, al, resE, wipeE]) (fun e => by cases e) fun _ => rt_b0 ?_
    refine rt_if false (ρ1 := [.d (.str z), .un]) (by
      have q1 : eqF (.str ⟨#[c]⟩) (.str "0") = some (sB (decide ((⟨#[c]⟩ : Str) = "0"))) := by simp [eqF, deq]
      have q2 : neF (.str z) (.str "0") = some (sB (!decide (z = "0"))) := by simp [neF, deq]
      generalize decide ((⟨#[c]⟩ : Str) = "0") = b1 at q1 cond
      generalize decide (z = "0") = b2 at q2 cond
      cases b1 with
      | false => simp [fnM, endF_ret, endF_nx, endF_exc, endF_stuck, fin, okB, wn_un, wn_d, wn_L, wn_M, wn_T, wn_O, wn_X, dat_un, dat_d, dat_L, dat_M, dat_T, dat_O, dat_X, bc, b0, ifS, ret, retN, My.set, sto, stoM, drp, asg, asB, asT, notT, andT, orT, op1, op2, opn, pk, ex, kd, rd, mv, frz, toS, arc, ar0, resAll, res_sl, res_dt, Option.bind_some, lenF, intF, strF, cmpF, addF, subF, mulF, modF, fdivF, truD, argsS, argS, sls, backS, rsB, callf, put_nm, put_tp, put_tl, puts_nil, puts_cons, lsc, ls0, lstG, tupG, forS, putC, itD, itsOf, itN, rng1, mut1, mut0, appF, Rs.bind_ok, Rs.bind_exc, Rs.bind_stuck, Rs.ctl_ok, Rs.ctl_exc, Rs.ctl_stuck, Rs.opt_some, Rs.opt_none, Ctl.then_nx, Ctl.then_ret, Ctl.then_exc, Ctl.then_brk, Ctl.then_cnt, Ctl.then_stuck, a0, q1]
      | true =>
        have : b2 = true := by simpa using cond
        subst this
        simp [fnM, endF_ret, endF_nx, endF_exc, endF_stuck, fin, okB, wn_un, wn_d, wn_L, wn_M, wn_T, wn_O, wn_X, dat_un, dat_d, dat_L, dat_M, dat_T, dat_O, dat_X, bc, b0, ifS, ret, retN, My.set, sto, stoM, drp, asg, asB, asT, notT, andT, orT, op1, op2, opn, pk, ex, kd, rd, mv, frz, toS, arc, ar0, resAll, res_sl, res_dt, Option.bind_some, lenF, intF, strF, cmpF, addF, subF, mulF, modF, fdivF, truD, argsS, argS, sls, backS, rsB, callf, put_nm, put_tp, put_tl, puts_nil, puts_cons, lsc, ls0, lstG, tupG, forS, putC, itD, itsOf, itN, rng1, mut1, mut0, appF, Rs.bind_ok, Rs.bind_exc, Rs.bind_stuck, Rs.ctl_ok, Rs.ctl_exc, Rs.ctl_stuck, Rs.opt_some, Rs.opt_none, Ctl.then_nx, Ctl.then_ret, Ctl.then_exc, Ctl.then_brk, Ctl.then_cnt, Ctl.then_stuck, a0, q1, q2]) (fun e => by cases e) fun _ => rt_b0 ?_
    exact rt_ret (s := .d (.int n)) (ρ1 := [.d (.str z), .un]) (by simp [fnM, endF_ret, endF_nx, endF_exc, endF_stuck, fin, okB, wn_un, wn_d, wn_L, wn_M, wn_T, wn_O, wn_X, dat_un, dat_d, dat_L, dat_M, dat_T, dat_O, dat_X, bc, b0, ifS, ret, retN, My.set, sto, stoM, drp, asg, asB, asT, notT, andT, orT, op1, op2, opn, pk, ex, kd, rd, mv, frz, toS, arc, ar0, resAll, res_sl, res_dt, Option.bind_some, ixF, ixS, lenF, intF, strF, cmpF, addF, subF, mulF, modF, fdivF, eqF, neF, deq, truD, argsS, argS, sls, backS, rsB, callf, put_nm, put_tp, put_tl, puts_nil, puts_cons, lsc, ls0, lstG, tupG, forS, putC, itD, itsOf, itN, rng1, mut1, mut0, appF, Rs.bind_ok, Rs.bind_exc, Rs.bind_stuck, Rs.ctl_ok, Rs.ctl_exc, Rs.ctl_stuck, Rs.opt_some, Rs.opt_none, Ctl.then_nx, Ctl.then_ret, Ctl.then_exc, Ctl.then_brk, Ctl.then_cnt, Ctl.then_stuck, intW, l6, iv]) ⟨rfl, by simp [My.fin, wn_un, wn_d, wn_L, wn_M, wn_T, wn_O, wn_X]⟩
  exact e9
def moveT (h s : Nat) : Str := nT h ++ " " ++ nT s
theorem r_moverow {h s : Nat} (hh : h < 10 ^ 9) (hs : s < 10 ^ 9) : m_move_row [.d (.tup [.int h, .int s])] = .ok (.d (.str (moveT h s))) [.d (.tup [.int h, .int s])] := by
  have lg : ∀ n : Nat, n < 10 ^ 9 → (n : Int).natAbs.log2 < 1920 := fun n hn => by
    rw [Int.natAbs_natCast]
    by_cases h0 : n = 0
    · subst h0; decide
    · exact (Nat.log2_lt h0).mpr (Nat.lt_of_lt_of_le hn (by decide +kernel))
  have zl : ∀ n : Nat, n < 10 ^ 9 → (nT n).length ≤ 9 := fun n hn => by
    have : (nT n).length = (TL.numL n).length := by rw [← nT_l]; rfl
    rw [this]; exact TL.numL_len (by decide) hn
  have ee : ∀ x : Str, Str.empty ++ x = x := fun x => str_ext (by rw [str_app_list]; rfl)
  obtain ⟨t, ss', e, rfl, rfl⟩ : ∃ t ss', m_move_row [.d (.tup [.int h, .int s])] = .ok t ss' ∧ t = .d (.str (moveT h s)) ∧ ss' = [.d (.tup [.int h, .int s])] := by
    unfold m_move_row
    refine rt_fn rfl ?_
    refine rt_bc [.d (.tup [.int h, .int s]), .d (.int h), .d (.int s)] (by simp [fnM, endF_ret, endF_nx, endF_exc, endF_stuck, fin, okB, wn_un, wn_d, wn_L, wn_M, wn_T, wn_O, wn_X, dat_un, dat_d, dat_L, dat_M, dat_T, dat_O, dat_X, bc, b0, ifS, ret, retN, My.set, sto, stoM, drp, asg, asB, asT, notT, andT, orT, op1, op2, opn, pk, ex, kd, rd, mv, frz, toS, arc, ar0, resAll, res_sl, res_dt, Option.bind_some, ixF, ixS, lenF, intF, strF, cmpF, addF, subF, mulF, modF, fdivF, eqF, neF, deq, truD, argsS, argS, sls, backS, rsB, callf, put_nm, put_tp, put_tl, puts_nil, puts_cons, lsc, ls0, lstG, tupG, forS, putC, itD, itsOf, itN, rng1, mut1, mut0, appF, Rs.bind_ok, Rs.bind_exc, Rs.bind_stuck, Rs.ctl_ok, Rs.ctl_exc, Rs.ctl_stuck, Rs.opt_some, Rs.opt_none, Ctl.then_nx, Ctl.then_ret, Ctl.then_exc, Ctl.then_brk, Ctl.then_cnt, Ctl.then_stuck]) ?_
    refine rt_ret (s := .d (.str (moveT h s))) (ρ1 := [.d (.tup [.int h, .int s]), .d (.int h), .d (.int s)]) ?_ ⟨rfl, by simp [My.fin, wn_un, wn_d, wn_L, wn_M, wn_T, wn_O, wn_X]⟩
    have f1 : fmtD (.int h) = some (nT h) := by unfold fmtD; simp only; rw [if_pos (lg h hh)]; rfl
    have f2 : fmtD (.int s) = some (nT s) := by unfold fmtD; simp only; rw [if_pos (lg s hs)]; rfl
    have z1 := zl h hh
    have z2 := zl s hs
    have bl1 : (" " : Str).length = 1 := by decide +kernel
    have k1 : (Str.empty ++ nT h).length ≤ 100000 := by rw [ee]; omega
    have k2 : (Str.empty ++ nT h ++ " ").length ≤ 100000 := by rw [ee, app_len, bl1]; omega
    have k3 : (Str.empty ++ nT h ++ " " ++ nT s).length ≤ 100000 := by rw [ee, app_len, app_len, bl1]; omega
    have e1 : fmG (rd 1) [.d (.tup [.int h, .int s]), .d (.int h), .d (.int s)] = .ok (.str (nT h)) [.d (.tup [.int h, .int s]), .d (.int h), .d (.int s)] := by simp [fmG, rd, f1]
    have e2 : fmG (rd 2) [.d (.tup [.int h, .int s]), .d (.int h), .d (.int s)] = .ok (.str (nT s)) [.d (.tup [.int h, .int s]), .d (.int h), .d (.int s)] := by simp [fmG, rd, f2]
    unfold toS fsG
    rw [e1]
    simp only [Rs.bind_ok, if_pos k1]
    unfold fsG kd
    simp only [Rs.bind_ok, if_pos k2]
    unfold fsG
    rw [e2]
    simp only [Rs.bind_ok, if_pos k3]
    unfold fsG
    simp only [Rs.bind_ok]
    rw [ee]; rfl
  exact e
theorem move_split (h s : Nat) : Txt.split (moveT h s) " " = [nT h, nT s] := by
  have fr : ∀ n : Nat, (32 : Nat) ∉ (nT n).cps.toList := fun n hm => by rw [nT_l] at hm; exact TL.numL_free (n := n) (s := 32) (.inl (by decide)) hm
  have j : Txt.join " " [nT h, nT s] = moveT h s := rfl
  rw [← j]
  exact TL.split_join (y := " ") (s := 32) (S := []) (by decide +kernel) (by decide +kernel) (List.cons_ne_nil _ _) fun p hp => by
    simp only [List.mem_cons, List.not_mem_nil, or_false] at hp
    rcases hp with rfl | rfl <;> exact fr _
theorem moveT_len {h s : Nat} (hh : h < 10 ^ 9) (hs : s < 10 ^ 9) : (moveT h s).length ≤ 19 := by
  have zl : ∀ n : Nat, n < 10 ^ 9 → (nT n).length ≤ 9 := fun n hn => by
    have : (nT n).length = (TL.numL n).length := by rw [← nT_l]; rfl
    rw [this]; exact TL.numL_len (by decide) hn
  have bl1 : (" " : Str).length = 1 := by decide +kernel
  have := zl h hh
  have := zl s hs
  unfold moveT
  rw [app_len, app_len, bl1]; omega
theorem r_readmove {h s : Nat} (hh : h < 10 ^ 9) (hs : s < 10 ^ 9) : m_read_move [.d (.str (moveT h s))] = .ok (.d (.tup [.int h, .int s])) [.d (.str (moveT h s))] := by
  have sp := move_split h s
  have tl := moveT_len hh hs
  have n1 := r_number hh
  have n2 := r_number hs
  obtain ⟨T, hT⟩ : ∃ T, T = moveT h s := ⟨_, rfl⟩
  rw [← hT] at sp tl ⊢
  obtain ⟨t, ss', e, rfl, rfl⟩ : ∃ t ss', m_read_move [.d (.str T)] = .ok t ss' ∧ t = .d (.tup [.int h, .int s]) ∧ ss' = [.d (.str T)] := by
    unfold m_read_move
    refine rt_fn rfl ?_
    have hl2 : T.length + 2 ≤ 100000 := by omega
    have bl1 : ((" " : Str).length == 0) = false := by decide +kernel
    have sg : splitG (rd 0) (kd (.str " ")) [.d (.str T), .un] = .ok (.L [.str (nT h), .str (nT s)]) [.d (.str T), .un] := by
      unfold splitG rd kd
      simp only [List.getElem?_cons_zero, Rs.bind_ok]
      rw [if_pos ⟨bl1, hl2⟩, sp]; rfl
    refine rt_bc [.d (.str T), .L [.str (nT h), .str (nT s)]] (by show My.set 1 _ [.d (.str T), .un] = _; simp only [My.set, sg, Rs.ctl_ok]; rfl) ?_
    refine rt_if false (ρ1 := [.d (.str T), .L [.str (nT h), .str (nT s)]]) (by simp [fnM, endF_ret, endF_nx, endF_exc, endF_stuck, fin, okB, wn_un, wn_d, wn_L, wn_M, wn_T, wn_O, wn_X, dat_un, dat_d, dat_L, dat_M, dat_T, dat_O, dat_X, bc, b0, ifS, ret, retN, My.set, sto, stoM, drp, asg, asB, asT, notT, andT, orT, op1, op2, opn, pk, ex, kd, rd, mv, frz, toS, arc, ar0, resAll, res_sl, res_dt, Option.bind_some, ixF, ixS, lenF, intF, strF, cmpF, addF, subF, mulF, modF, fdivF, eqF, neF, deq, truD, argsS, argS, sls, backS, rsB, callf, put_nm, put_tp, put_tl, puts_nil, puts_cons, lsc, ls0, lstG, tupG, forS, putC, itD, itsOf, itN, rng1, mut1, mut0, appF, Rs.bind_ok, Rs.bind_exc, Rs.bind_stuck, Rs.ctl_ok, Rs.ctl_exc, Rs.ctl_stuck, Rs.opt_some, Rs.opt_none, Ctl.then_nx, Ctl.then_ret, Ctl.then_exc, Ctl.then_brk, Ctl.then_cnt, Ctl.then_stuck, isN, notN, ifE, fldF, isF, List.lookup, clsOf, orr, callm, mkf, mkB, mk0, stf, slG, ext1, augI, chn, leF, ltF, gtF, geF, enm, enmT, part, noPart, tupleF, listF]) (fun e => by cases e) fun _ => rt_b0 ?_
    exact rt_ret (s := .d (.tup [.int h, .int s])) (ρ1 := [.d (.str T), .L [.str (nT h), .str (nT s)]]) (by simp [fnM, endF_ret, endF_nx, endF_exc, endF_stuck, fin, okB, wn_un, wn_d, wn_L, wn_M, wn_T, wn_O, wn_X, dat_un, dat_d, dat_L, dat_M, dat_T, dat_O, dat_X, bc, b0, ifS, ret, retN, My.set, sto, stoM, drp, asg, asB, asT, notT, andT, orT, op1, op2, opn, pk, ex, kd, rd, mv, frz, toS, arc, ar0, resAll, res_sl, res_dt, Option.bind_some, ixF, ixS, lenF, intF, strF, cmpF, addF, subF, mulF, modF, fdivF, eqF, neF, deq, truD, argsS, argS, sls, backS, rsB, callf, put_nm, put_tp, put_tl, puts_nil, puts_cons, lsc, ls0, lstG, tupG, forS, putC, itD, itsOf, itN, rng1, mut1, mut0, appF, Rs.bind_ok, Rs.bind_exc, Rs.bind_stuck, Rs.ctl_ok, Rs.ctl_exc, Rs.ctl_stuck, Rs.opt_some, Rs.opt_none, Ctl.then_nx, Ctl.then_ret, Ctl.then_exc, Ctl.then_brk, Ctl.then_cnt, Ctl.then_stuck, L2.atI, L2.ixN, n1, n2]) ⟨rfl, by simp [My.fin, wn_un, wn_d, wn_L, wn_M, wn_T, wn_O, wn_X]⟩
  exact e


/-! ### the same data, and rows of texts, compared with both answers -/
section
variable {cs : List (Nat × Nat)} {n : Nat}
mutual
theorem self_q : ∀ d : D, okc cs d = true → cmpq cs d d = true ∧ eqD d d = true
  | .non, _ => by simp [cmpq, eqD, flD, deq]
  | .bl b, _ => by simp [cmpq, eqD, flD, deq]
  | .int i, _ => by simp [cmpq, eqD, flD, deq]
  | .str z, _ => by simp [cmpq, eqD, flD, deq]
  | .tup xs, o => selfs_q xs o
  | .lst xs, o => selfs_q xs o
  | .obj c xs, o => by
    simp only [okc, Bool.and_eq_true] at o
    have q := selfs_q xs o.2
    simp [cmpq, eqD, o.1, q.1, q.2]
  | .dct _ _, o => by cases o
  | .dtt _ _, o => by cases o
theorem selfs_q : ∀ xs : List D, okcs cs xs = true → cmpqs cs xs xs = true ∧ eqDs xs xs = true
  | [], _ => ⟨rfl, rfl⟩
  | x :: xs, o => by
    simp only [okcs, Bool.and_eq_true] at o
    have a := self_q x o.1
    have b := selfs_q xs o.2
    simp [cmpqs, eqDs, a.1, a.2, b.1, b.2]
end
theorem eqBF_self {x : D} (o : okc cs x = true) (l : hgt x ≤ n) : eqBF cs n x x = some (sB true) := by rw [eqBF_is (self_q x o).1 l, (self_q x o).2]
theorem neBF_self {x : D} (o : okc cs x = true) (l : hgt x ≤ n) : neBF cs n x x = some (sB false) := by rw [neBF_is (self_q x o).1 l, (self_q x o).2]; rfl
end


-- NOMD
theorem nm_sokS {z : Str} (h : Nm 10 z) : PyData.strOk z = true := by
  have hl : ∀ c ∈ LFS.cps.toList, c < 1114112 := by decide +kernel
  unfold PyData.strOk
  rw [← Array.all_toList, List.all_eq_true]
  exact fun c hc => by simpa using hl c (h.2.2.2 c hc)
theorem pd_nmS {n : Nat} {z : Str} (h : Nm 10 z) : Pd n (.str z) := by cases n <;> exact nm_sokS h


-- NOMD
/-! ### the law -/
theorem lq_Question : eqcs.lookup 0 = some 3 := rfl
theorem sortU_sub (ks : List Str) : (sortU ks).Nodup ∧ ∀ k ∈ sortU ks, k ∈ ks := by
  unfold sortU
  split
  · rename_i h
    have q := Classical.choose_spec h
    exact ⟨q.2.1, fun k hk => (q.2.2 k).mp hk⟩
  · exact ⟨List.nodup_nil, fun k hk => by cases hk⟩
theorem pd_w {z : Str} (h : z = "lead" ∨ z = "with" ∨ z = "holds" ∨ Nm 10 z) : Pd 0 (.str z) := by
  rcases h with rfl | rfl | rfl | h
  · show PyData.strOk "lead" = true; decide +kernel
  · show PyData.strOk "with" = true; decide +kernel
  · show PyData.strOk "holds" = true; decide +kernel
  · exact pd_nmS h
theorem r_words82 {l : Option Str} {fs : List Str} {hs : List (Str × Str)} (ok : QOk l fs hs) : m_l_words_of [.d (leadD l), .L (fs.map .str), .L (hs.map holdD)] = .ok (.d (.str (qText l fs hs))) [.d (leadD l), .d (.lst (fs.map .str)), .d (.lst (hs.map holdD))] := by
  have h6 := ok.f6
  have h9 := ok.h9
  have jo := q_join ok
  have qw := qWith_len
  have qh := qHolds_len
  have hd2 : (qHead l).length ≤ 2 := by cases l <;> simp [qHead]
  have pl := qParts_len (l := l) (fs := fs) (hs := hs)
  obtain ⟨t, ss', e, rfl, rfl⟩ : ∃ t ss', m_l_words_of [.d (leadD l), .L (fs.map .str), .L (hs.map holdD)] = .ok t ss' ∧ t = .d (.str (qText l fs hs)) ∧ ss' = [.d (leadD l), .d (.lst (fs.map .str)), .d (.lst (hs.map holdD))] := by
    unfold m_l_words_of
    refine rt_fn (by simp [okB]) ?_
    let R (x1 x2 : S) (p : List Str) (a b c : S) : En := [.d (leadD l), x1, x2, .L (p.map .str), a, b, c]
    let x1 : S := .L (fs.map .str)
    let x2 : S := .L (hs.map holdD)
    let y1 : S := .d (.lst (fs.map .str))
    let y2 : S := .d (.lst (hs.map holdD))
    show Rt (bc _ _ [.d (leadD l), x1, x2, .un, .un, .un, .un]) _
    refine rt_bc (R x1 x2 [] .un .un .un) (by simp only [R, x1, x2]; simp [fnM, endF_ret, endF_nx, endF_exc, endF_stuck, fin, okB, wn_un, wn_d, wn_L, wn_M, wn_T, wn_O, wn_X, dat_un, dat_d, dat_L, dat_M, dat_T, dat_O, dat_X, bc, b0, ifS, ret, retN, My.set, sto, stoM, drp, asg, asB, asT, notT, andT, orT, op1, op2, opn, pk, ex, kd, rd, mv, frz, toS, arc, ar0, resAll, res_sl, res_dt, Option.bind_some, ixF, ixS, lenF, intF, strF, cmpF, addF, subF, mulF, modF, fdivF, eqF, neF, deq, truD, argsS, argS, sls, backS, rsB, callf, put_nm, put_tp, put_tl, puts_nil, puts_cons, lsc, ls0, lstG, tupG, forS, putC, itD, itsOf, itN, rng1, mut1, mut0, appF, Rs.bind_ok, Rs.bind_exc, Rs.bind_stuck, Rs.ctl_ok, Rs.ctl_exc, Rs.ctl_stuck, Rs.opt_some, Rs.opt_none, Ctl.then_nx, Ctl.then_ret, Ctl.then_exc, Ctl.then_brk, Ctl.then_cnt, Ctl.then_stuck]) ?_
    refine rt_then (fun ρ => ρ = R x1 x2 (qHead l) .un .un .un) (nx_if l.isSome (ρ1 := R x1 x2 [] .un .un .un) (by
      simp only [R, x1, x2]
      cases l <;> simp [fnM, endF_ret, endF_nx, endF_exc, endF_stuck, fin, okB, wn_un, wn_d, wn_L, wn_M, wn_T, wn_O, wn_X, dat_un, dat_d, dat_L, dat_M, dat_T, dat_O, dat_X, bc, b0, ifS, ret, retN, My.set, sto, stoM, drp, asg, asB, asT, notT, andT, orT, op1, op2, opn, pk, ex, kd, rd, mv, frz, toS, arc, ar0, resAll, res_sl, res_dt, Option.bind_some, ixF, ixS, lenF, intF, strF, cmpF, addF, subF, mulF, modF, fdivF, eqF, neF, deq, truD, argsS, argS, sls, backS, rsB, callf, put_nm, put_tp, put_tl, puts_nil, puts_cons, lsc, ls0, lstG, tupG, forS, putC, itD, itsOf, itN, rng1, mut1, mut0, appF, Rs.bind_ok, Rs.bind_exc, Rs.bind_stuck, Rs.ctl_ok, Rs.ctl_exc, Rs.ctl_stuck, Rs.opt_some, Rs.opt_none, Ctl.then_nx, Ctl.then_ret, Ctl.then_exc, Ctl.then_brk, Ctl.then_cnt, Ctl.then_stuck, isN, notN, ifE, fldF, isF, List.lookup, clsOf, orr, callm, mkf, mkB, mk0, stf, slG, ext1, augI, chn, leF, ltF, gtF, geF, enm, enmT, part, noPart, tupleF, listF, leadD]) (fun z => nx_end (ρ1 := R x1 x2 (qHead l) .un .un .un) (by
        cases l with
        | none => cases z
        | some y => simp only [R, x1, x2, leadD, qHead]; simp [fnM, endF_ret, endF_nx, endF_exc, endF_stuck, fin, okB, wn_un, wn_d, wn_L, wn_M, wn_T, wn_O, wn_X, dat_un, dat_d, dat_L, dat_M, dat_T, dat_O, dat_X, bc, b0, ifS, ret, retN, My.set, sto, stoM, drp, asg, asB, asT, notT, andT, orT, op1, op2, opn, pk, ex, kd, rd, mv, frz, toS, arc, ar0, resAll, res_sl, res_dt, Option.bind_some, ixF, ixS, lenF, intF, strF, cmpF, addF, subF, mulF, modF, fdivF, eqF, neF, deq, truD, argsS, argS, sls, backS, rsB, callf, put_nm, put_tp, put_tl, puts_nil, puts_cons, lsc, ls0, lstG, tupG, forS, putC, itD, itsOf, itN, rng1, mut1, mut0, appF, Rs.bind_ok, Rs.bind_exc, Rs.bind_stuck, Rs.ctl_ok, Rs.ctl_exc, Rs.ctl_stuck, Rs.opt_some, Rs.opt_none, Ctl.then_nx, Ctl.then_ret, Ctl.then_exc, Ctl.then_brk, Ctl.then_cnt, Ctl.then_stuck]) rfl) (fun z => nx_b0 (by
        cases l with
        | none => rfl
        | some y => cases z))) (fun ρ hρ => ?_)
    subst hρ
    refine rt_for (fs.map .str) (fun i ρ => ∃ a, ρ = R y1 x2 (qHead l ++ qWith (fs.take i)) a .un .un) (ρ1 := R y1 x2 (qHead l) .un .un .un) (by simp only [R, x1, x2, y1]; simp [fnM, endF_ret, endF_nx, endF_exc, endF_stuck, fin, okB, wn_un, wn_d, wn_L, wn_M, wn_T, wn_O, wn_X, dat_un, dat_d, dat_L, dat_M, dat_T, dat_O, dat_X, bc, b0, ifS, ret, retN, My.set, sto, stoM, drp, asg, asB, asT, notT, andT, orT, op1, op2, opn, pk, ex, kd, rd, mv, frz, toS, arc, ar0, resAll, res_sl, res_dt, Option.bind_some, ixF, ixS, lenF, intF, strF, cmpF, addF, subF, mulF, modF, fdivF, eqF, neF, deq, truD, argsS, argS, sls, backS, rsB, callf, put_nm, put_tp, put_tl, puts_nil, puts_cons, lsc, ls0, lstG, tupG, forS, putC, itD, itsOf, itN, rng1, mut1, mut0, appF, Rs.bind_ok, Rs.bind_exc, Rs.bind_stuck, Rs.ctl_ok, Rs.ctl_exc, Rs.ctl_stuck, Rs.opt_some, Rs.opt_none, Ctl.then_nx, Ctl.then_ret, Ctl.then_exc, Ctl.then_brk, Ctl.then_cnt, Ctl.then_stuck, itsOf]) ⟨.un, by simp [qWith]⟩ (fun i x ρ hx hi => ?_) (fun ρ' hi => ?_)
    · obtain ⟨a, rfl⟩ := hi
      rw [List.getElem?_map] at hx
      obtain ⟨f, e1, rfl⟩ := Option.map_eq_some_iff.mp hx
      have lt : (fs.take i).length ≤ 6 := by rw [List.length_take]; omega
      have ll : ((qHead l ++ qWith (fs.take i)).map D.str).length + 2 ≤ 100000 := by
        rw [List.length_map, List.length_append, qw]; omega
      have exx : ((qHead l ++ qWith (fs.take (i + 1))).map D.str) = (qHead l ++ qWith (fs.take i)).map .str ++ [.str "with", .str f] := by rw [take_snoc e1, qWith_snoc]; simp
      refine ⟨R y1 x2 (qHead l ++ qWith (fs.take i)) (.d (.str f)) .un .un, R y1 x2 (qHead l ++ qWith (fs.take (i + 1))) (.d (.str f)) .un .un, by simp only [R]; simp [put_nm], .inl ?_, _, rfl⟩
      simp only [R, x2, y1]
      rw [exx]
      generalize (qHead l ++ qWith (fs.take i)).map D.str = X at ll
      simp [fnM, endF_ret, endF_nx, endF_exc, endF_stuck, fin, okB, wn_un, wn_d, wn_L, wn_M, wn_T, wn_O, wn_X, dat_un, dat_d, dat_L, dat_M, dat_T, dat_O, dat_X, bc, b0, ifS, ret, retN, My.set, sto, stoM, drp, asg, asB, asT, notT, andT, orT, op1, op2, opn, pk, ex, kd, rd, mv, frz, toS, arc, ar0, resAll, res_sl, res_dt, Option.bind_some, ixF, ixS, lenF, intF, strF, cmpF, addF, subF, mulF, modF, fdivF, eqF, neF, deq, truD, argsS, argS, sls, backS, rsB, callf, put_nm, put_tp, put_tl, puts_nil, puts_cons, lsc, ls0, lstG, tupG, forS, putC, itD, itsOf, itN, rng1, mut1, mut0, appF, Rs.bind_ok, Rs.bind_exc, Rs.bind_stuck, Rs.ctl_ok, Rs.ctl_exc, Rs.ctl_stuck, Rs.opt_some, Rs.opt_none, Ctl.then_nx, Ctl.then_ret, Ctl.then_exc, Ctl.then_brk, Ctl.then_cnt, Ctl.then_stuck, ll]
    obtain ⟨a, rfl⟩ := hi
    rw [List.length_map, List.take_length]
    refine rt_for (hs.map holdD) (fun i ρ => ∃ b c, ρ = R y1 y2 (qHead l ++ qWith fs ++ qHolds (hs.take i)) a b c) (ρ1 := R y1 y2 (qHead l ++ qWith fs) a .un .un) (by simp only [R, x2, y1, y2]; simp [fnM, endF_ret, endF_nx, endF_exc, endF_stuck, fin, okB, wn_un, wn_d, wn_L, wn_M, wn_T, wn_O, wn_X, dat_un, dat_d, dat_L, dat_M, dat_T, dat_O, dat_X, bc, b0, ifS, ret, retN, My.set, sto, stoM, drp, asg, asB, asT, notT, andT, orT, op1, op2, opn, pk, ex, kd, rd, mv, frz, toS, arc, ar0, resAll, res_sl, res_dt, Option.bind_some, ixF, ixS, lenF, intF, strF, cmpF, addF, subF, mulF, modF, fdivF, eqF, neF, deq, truD, argsS, argS, sls, backS, rsB, callf, put_nm, put_tp, put_tl, puts_nil, puts_cons, lsc, ls0, lstG, tupG, forS, putC, itD, itsOf, itN, rng1, mut1, mut0, appF, Rs.bind_ok, Rs.bind_exc, Rs.bind_stuck, Rs.ctl_ok, Rs.ctl_exc, Rs.ctl_stuck, Rs.opt_some, Rs.opt_none, Ctl.then_nx, Ctl.then_ret, Ctl.then_exc, Ctl.then_brk, Ctl.then_cnt, Ctl.then_stuck, itsOf]) ⟨.un, .un, by simp [qHolds]⟩ (fun i x ρ hx hi => ?_) (fun ρ' hi => ?_)
    · obtain ⟨b, c, rfl⟩ := hi
      rw [List.getElem?_map] at hx
      obtain ⟨h, e1, rfl⟩ := Option.map_eq_some_iff.mp hx
      have lt : (hs.take i).length ≤ 1000 := by rw [List.length_take]; omega
      have ll : ((qHead l ++ qWith fs ++ qHolds (hs.take i)).map D.str).length + 3 ≤ 100000 := by
        rw [List.length_map, List.length_append, List.length_append, qw, qh]; omega
      have exx : ((qHead l ++ qWith fs ++ qHolds (hs.take (i + 1))).map D.str) = (qHead l ++ qWith fs ++ qHolds (hs.take i)).map .str ++ [.str "holds", .str h.1, .str h.2] := by rw [take_snoc e1, qHolds_snoc]; simp
      refine ⟨R y1 y2 (qHead l ++ qWith fs ++ qHolds (hs.take i)) a (.d (.str h.1)) (.d (.str h.2)), R y1 y2 (qHead l ++ qWith fs ++ qHolds (hs.take (i + 1))) a (.d (.str h.1)) (.d (.str h.2)), by simp only [R, holdD]; simp [put_tp, put_nm, puts_cons, puts_nil], .inl ?_, _, _, rfl⟩
      simp only [R, y1, y2]
      rw [exx]
      generalize (qHead l ++ qWith fs ++ qHolds (hs.take i)).map D.str = X at ll
      simp [fnM, endF_ret, endF_nx, endF_exc, endF_stuck, fin, okB, wn_un, wn_d, wn_L, wn_M, wn_T, wn_O, wn_X, dat_un, dat_d, dat_L, dat_M, dat_T, dat_O, dat_X, bc, b0, ifS, ret, retN, My.set, sto, stoM, drp, asg, asB, asT, notT, andT, orT, op1, op2, opn, pk, ex, kd, rd, mv, frz, toS, arc, ar0, resAll, res_sl, res_dt, Option.bind_some, ixF, ixS, lenF, intF, strF, cmpF, addF, subF, mulF, modF, fdivF, eqF, neF, deq, truD, argsS, argS, sls, backS, rsB, callf, put_nm, put_tp, put_tl, puts_nil, puts_cons, lsc, ls0, lstG, tupG, forS, putC, itD, itsOf, itN, rng1, mut1, mut0, appF, Rs.bind_ok, Rs.bind_exc, Rs.bind_stuck, Rs.ctl_ok, Rs.ctl_exc, Rs.ctl_stuck, Rs.opt_some, Rs.opt_none, Ctl.then_nx, Ctl.then_ret, Ctl.then_exc, Ctl.then_brk, Ctl.then_cnt, Ctl.then_stuck, ll]
    obtain ⟨b, c, rfl⟩ := hi
    rw [List.length_map, List.take_length]
    show Rt (ret _ (R y1 y2 (qParts l fs hs) a b c)) _
    have pd : Pd 1 (.lst ((qParts l fs hs).map .str)) := fun x hx => by
      obtain ⟨z, hz, rfl⟩ := List.mem_map.mp hx
      exact pd_w (qParts_w ok z hz)
    have q0 := eq_nil pd (by decide)
    have lx : ((qParts l fs hs).map D.str).length ≤ 10000 := by rw [List.length_map]; omega
    have fin9 : ((qParts l fs hs).map D.str).isEmpty = (qParts l fs hs).isEmpty := by cases qParts l fs hs <;> rfl
    rw [fin9] at q0
    have sum9 : ∃ z, joinF " " (.lst ((qParts l fs hs).map .str ++ if (qParts l fs hs).isEmpty = true then [.str "any"] else [])) = some z ∧ z = qText l fs hs := by
      unfold qText
      by_cases hp : qParts l fs hs = []
      · rw [hp]; exact ⟨"any", by decide +kernel, rfl⟩
      · have : (qParts l fs hs).isEmpty = false := by simpa using hp
        rw [this, if_neg hp]
        exact ⟨_, by simpa using jo, rfl⟩
    obtain ⟨T, hT, rfl⟩ := sum9
    refine rt_ret (s := .d (.str (qText l fs hs))) (ρ1 := R y1 y2 (qParts l fs hs) a b c) ?_ ⟨rfl, by simp only [R, y1, y2]; simp [My.fin, wn_un, wn_d, wn_L, wn_M, wn_T, wn_O, wn_X]⟩
    simp only [R]
    generalize (qParts l fs hs).map D.str = X at q0 lx hT
    generalize (qParts l fs hs).isEmpty = bb at q0 hT
    cases bb with
    | true => simp [fnM, endF_ret, endF_nx, endF_exc, endF_stuck, fin, okB, wn_un, wn_d, wn_L, wn_M, wn_T, wn_O, wn_X, dat_un, dat_d, dat_L, dat_M, dat_T, dat_O, dat_X, bc, b0, ifS, ret, retN, My.set, sto, stoM, drp, asg, asB, asT, notT, andT, orT, op1, op2, opn, pk, ex, kd, rd, mv, frz, toS, arc, ar0, resAll, res_sl, res_dt, Option.bind_some, ixF, ixS, lenF, intF, strF, cmpF, addF, subF, mulF, modF, fdivF, truD, argsS, argS, sls, backS, rsB, callf, put_nm, put_tp, put_tl, puts_nil, puts_cons, lsc, ls0, lstG, tupG, forS, putC, itD, itsOf, itN, rng1, mut1, mut0, appF, Rs.bind_ok, Rs.bind_exc, Rs.bind_stuck, Rs.ctl_ok, Rs.ctl_exc, Rs.ctl_stuck, Rs.opt_some, Rs.opt_none, Ctl.then_nx, Ctl.then_ret, Ctl.then_exc, Ctl.then_brk, Ctl.then_cnt, Ctl.then_stuck, joinG, repG, q0, lx, show X.length ≤ 99999 by omega, show X.length + 1 ≤ 100000 by omega] at hT ⊢; simp [hT]
    | false => simp [fnM, endF_ret, endF_nx, endF_exc, endF_stuck, fin, okB, wn_un, wn_d, wn_L, wn_M, wn_T, wn_O, wn_X, dat_un, dat_d, dat_L, dat_M, dat_T, dat_O, dat_X, bc, b0, ifS, ret, retN, My.set, sto, stoM, drp, asg, asB, asT, notT, andT, orT, op1, op2, opn, pk, ex, kd, rd, mv, frz, toS, arc, ar0, resAll, res_sl, res_dt, Option.bind_some, ixF, ixS, lenF, intF, strF, cmpF, addF, subF, mulF, modF, fdivF, truD, argsS, argS, sls, backS, rsB, callf, put_nm, put_tp, put_tl, puts_nil, puts_cons, lsc, ls0, lstG, tupG, forS, putC, itD, itsOf, itN, rng1, mut1, mut0, appF, Rs.bind_ok, Rs.bind_exc, Rs.bind_stuck, Rs.ctl_ok, Rs.ctl_exc, Rs.ctl_stuck, Rs.opt_some, Rs.opt_none, Ctl.then_nx, Ctl.then_ret, Ctl.then_exc, Ctl.then_brk, Ctl.then_cnt, Ctl.then_stuck, joinG, repG, q0, lx, show X.length ≤ 100000 by omega] at hT ⊢; simp [hT]
  exact e
theorem r_figure {a b c : Int} (h : Sd a b c) : ∃ x y z a' b' c', m_l_figure [sd a b c] = .ok (.L [.int x, .int y, .int z]) [sd a' b' c'] ∧ (0 ≤ x ∧ x < 1000000000) ∧ (0 ≤ y ∧ y < 1000000000) ∧ (0 ≤ z ∧ z < 1000000000) ∧ Sd a' b' c' := by
  obtain ⟨v1, a1, b1, c1, e1, p1, q1, s1⟩ := r_digit h (n := 10) (by decide) (by decide)
  obtain ⟨v2, a2, b2, c2, e2, p2, q2, s2⟩ := r_digit s1 (n := 1000) (by decide) (by decide)
  obtain ⟨v3, a3, b3, c3, e3, p3, q3, s3⟩ := r_digit s2 (n := 100000) (by decide) (by decide)
  obtain ⟨v4, a4, b4, c4, e4, p4, q4, s4⟩ := r_digit s3 (n := 10000) (by decide) (by decide)
  have w5 : powF (.int 10) (.int 5) = some (sI 100000) := by simp [powF]
  have w4 : powF (.int 10) (.int 4) = some (sI 10000) := by simp [powF]
  have mu : mulF (.int v3) (.int 10000) = some (sI (v3 * 10000)) := by
    have : -18446744073709551616 < (10000 : Int) ∧ (10000 : Int) < 18446744073709551616 := by decide
    simp [mulF]
  obtain ⟨t, ss', e, rfl, rfl⟩ : ∃ t ss', m_l_figure [sd a b c] = .ok t ss' ∧ t = .L [.int v1, .int v2, .int (v3 * 10000 + v4)] ∧ ss' = [sd a4 b4 c4] := by
    unfold m_l_figure
    refine rt_fn rfl ?_
    refine rt_ret (s := .L [.int v1, .int v2, .int (v3 * 10000 + v4)]) (ρ1 := [sd a4 b4 c4]) ?_ ⟨rfl, by simp [My.fin, wn_un, wn_d, wn_L, wn_M, wn_T, wn_O, wn_X]⟩
    show lstG _ [sd a b c] = _
    simp [fnM, endF_ret, endF_nx, endF_exc, endF_stuck, fin, okB, wn_un, wn_d, wn_L, wn_M, wn_T, wn_O, wn_X, dat_un, dat_d, dat_L, dat_M, dat_T, dat_O, dat_X, bc, b0, ifS, ret, retN, My.set, sto, stoM, drp, asg, asB, asT, notT, andT, orT, op1, op2, opn, pk, ex, kd, rd, mv, frz, toS, arc, ar0, resAll, res_sl, res_dt, Option.bind_some, ixF, ixS, lenF, intF, strF, cmpF, addF, subF, mulF, modF, fdivF, eqF, neF, deq, truD, argsS, argS, sls, backS, rsB, callf, put_nm, put_tp, put_tl, puts_nil, puts_cons, lsc, ls0, lstG, tupG, forS, putC, itD, itsOf, itN, rng1, mut1, mut0, appF, Rs.bind_ok, Rs.bind_exc, Rs.bind_stuck, Rs.ctl_ok, Rs.ctl_exc, Rs.ctl_stuck, Rs.opt_some, Rs.opt_none, Ctl.then_nx, Ctl.then_ret, Ctl.then_exc, Ctl.then_brk, Ctl.then_cnt, Ctl.then_stuck, e1, e2, e3, e4, w5, w4, mu]
  exact ⟨v1, v2, v3 * 10000 + v4, a4, b4, c4, e, ⟨p1, by omega⟩, ⟨p2, by omega⟩, ⟨by omega, by omega⟩, s4⟩


-- NOMD
theorem r_cell {ns : List Int} {j : Int} (h0 : 0 ≤ j) (hn : ns.length ≤ 1000) : ∃ v : Int, m_l_cell_at [.d (.lst (ns.map .int)), .d (.int j)] = .ok (.d (.int v)) [.d (.lst (ns.map .int)), .d (.int j)] := by
  obtain ⟨s, ss', e, ⟨v, rfl⟩, rfl⟩ : ∃ s ss', m_l_cell_at [.d (.lst (ns.map .int)), .d (.int j)] = .ok s ss' ∧ (∃ v : Int, s = .d (.int v)) ∧ ss' = [.d (.lst (ns.map .int)), .d (.int j)] := by
    unfold m_l_cell_at
    refine rt_fn rfl ?_
    by_cases hj : j < ns.length
    · obtain ⟨x, e1, e2⟩ := ix_nn (xs := ns.map .int) h0 (by simpa using hj)
      rw [List.getElem?_map] at e2
      obtain ⟨v, _, rfl⟩ := Option.map_eq_some_iff.mp e2
      refine rt_if true (ρ1 := [.d (.lst (ns.map .int)), .d (.int j)]) (by simp [fnM, endF_ret, endF_nx, endF_exc, endF_stuck, fin, okB, wn_un, wn_d, wn_L, wn_M, wn_T, wn_O, wn_X, dat_un, dat_d, dat_L, dat_M, dat_T, dat_O, dat_X, bc, b0, ifS, ret, retN, My.set, sto, stoM, drp, asg, asB, asT, notT, andT, orT, op1, op2, opn, pk, ex, kd, rd, mv, frz, toS, arc, ar0, resAll, res_sl, res_dt, Option.bind_some, ixF, ixS, lenF, intF, strF, cmpF, addF, subF, mulF, modF, fdivF, eqF, neF, deq, truD, argsS, argS, sls, backS, rsB, callf, put_nm, put_tp, put_tl, puts_nil, puts_cons, lsc, ls0, lstG, tupG, forS, putC, itD, itsOf, itN, rng1, mut1, mut0, appF, Rs.bind_ok, Rs.bind_exc, Rs.bind_stuck, Rs.ctl_ok, Rs.ctl_exc, Rs.ctl_stuck, Rs.opt_some, Rs.opt_none, Ctl.then_nx, Ctl.then_ret, Ctl.then_exc, Ctl.then_brk, Ctl.then_cnt, Ctl.then_stuck, ltF, hj]) (fun _ => ?_) (fun q => (by cases q))
      exact rt_bret (s := .d (.int v)) (ρ1 := [.d (.lst (ns.map .int)), .d (.int j)]) (by
        generalize ns.map D.int = xs at e1
        simp [fnM, endF_ret, endF_nx, endF_exc, endF_stuck, fin, okB, wn_un, wn_d, wn_L, wn_M, wn_T, wn_O, wn_X, dat_un, dat_d, dat_L, dat_M, dat_T, dat_O, dat_X, bc, b0, ifS, ret, retN, My.set, sto, stoM, drp, asg, asB, asT, notT, andT, orT, op1, op2, opn, pk, ex, kd, rd, mv, frz, toS, arc, ar0, resAll, res_sl, res_dt, Option.bind_some, lenF, intF, strF, cmpF, addF, subF, mulF, modF, fdivF, eqF, neF, deq, truD, argsS, argS, sls, backS, rsB, callf, put_nm, put_tp, put_tl, puts_nil, puts_cons, lsc, ls0, lstG, tupG, forS, putC, itD, itsOf, itN, rng1, mut1, mut0, appF, Rs.bind_ok, Rs.bind_exc, Rs.bind_stuck, Rs.ctl_ok, Rs.ctl_exc, Rs.ctl_stuck, Rs.opt_some, Rs.opt_none, Ctl.then_nx, Ctl.then_ret, Ctl.then_exc, Ctl.then_brk, Ctl.then_cnt, Ctl.then_stuck, e1]) ⟨⟨v, rfl⟩, by simp [My.fin, wn_un, wn_d, wn_L, wn_M, wn_T, wn_O, wn_X]⟩
    · refine rt_if false (ρ1 := [.d (.lst (ns.map .int)), .d (.int j)]) (by simp [fnM, endF_ret, endF_nx, endF_exc, endF_stuck, fin, okB, wn_un, wn_d, wn_L, wn_M, wn_T, wn_O, wn_X, dat_un, dat_d, dat_L, dat_M, dat_T, dat_O, dat_X, bc, b0, ifS, ret, retN, My.set, sto, stoM, drp, asg, asB, asT, notT, andT, orT, op1, op2, opn, pk, ex, kd, rd, mv, frz, toS, arc, ar0, resAll, res_sl, res_dt, Option.bind_some, ixF, ixS, lenF, intF, strF, cmpF, addF, subF, mulF, modF, fdivF, eqF, neF, deq, truD, argsS, argS, sls, backS, rsB, callf, put_nm, put_tp, put_tl, puts_nil, puts_cons, lsc, ls0, lstG, tupG, forS, putC, itD, itsOf, itN, rng1, mut1, mut0, appF, Rs.bind_ok, Rs.bind_exc, Rs.bind_stuck, Rs.ctl_ok, Rs.ctl_exc, Rs.ctl_stuck, Rs.opt_some, Rs.opt_none, Ctl.then_nx, Ctl.then_ret, Ctl.then_exc, Ctl.then_brk, Ctl.then_cnt, Ctl.then_stuck, ltF, hj]) (fun q => (by cases q)) (fun _ => rt_b0 ?_)
      exact rt_ret (s := .d (.int 0)) (ρ1 := [.d (.lst (ns.map .int)), .d (.int j)]) (by simp [fnM, endF_ret, endF_nx, endF_exc, endF_stuck, fin, okB, wn_un, wn_d, wn_L, wn_M, wn_T, wn_O, wn_X, dat_un, dat_d, dat_L, dat_M, dat_T, dat_O, dat_X, bc, b0, ifS, ret, retN, My.set, sto, stoM, drp, asg, asB, asT, notT, andT, orT, op1, op2, opn, pk, ex, kd, rd, mv, frz, toS, arc, ar0, resAll, res_sl, res_dt, Option.bind_some, ixF, ixS, lenF, intF, strF, cmpF, addF, subF, mulF, modF, fdivF, eqF, neF, deq, truD, argsS, argS, sls, backS, rsB, callf, put_nm, put_tp, put_tl, puts_nil, puts_cons, lsc, ls0, lstG, tupG, forS, putC, itD, itsOf, itN, rng1, mut1, mut0, appF, Rs.bind_ok, Rs.bind_exc, Rs.bind_stuck, Rs.ctl_ok, Rs.ctl_exc, Rs.ctl_stuck, Rs.opt_some, Rs.opt_none, Ctl.then_nx, Ctl.then_ret, Ctl.then_exc, Ctl.then_brk, Ctl.then_cnt, Ctl.then_stuck]) ⟨⟨0, rfl⟩, by simp [My.fin, wn_un, wn_d, wn_L, wn_M, wn_T, wn_O, wn_X]⟩
  exact ⟨v, e⟩


-- NOMD
theorem lcL_inv {t : Tg} {vs : List Nat} {e : En → Rs D} (its : List D) (J : Nat → List D → En → Prop) (go : ∀ i x acc ρ, its[i]? = some x → J i acc ρ → ∃ ρ2 y ρ3, t.put x ρ = some ρ2 ∧ e ρ2 = .ok y ρ3 ∧ J (i + 1) (acc ++ [y]) (wipeE ρ3 vs)) {ρ : En} (h : J 0 [] ρ) : ∃ ys ρ', lcL t vs tru e its [] ρ = .ok ys ρ' ∧ J its.length ys ρ' := by
  have key : ∀ (r : List D) (k : Nat) (acc : List D) (ρ : En), (∀ i, r[i]? = its[k + i]?) → k + r.length = its.length → J k acc ρ → ∃ ys ρ', lcL t vs tru e r acc ρ = .ok ys ρ' ∧ J its.length ys ρ' := by
    intro r
    induction r with
    | nil => intro k acc ρ _ l h; exact ⟨acc, ρ, rfl, by rw [← l]; exact h⟩
    | cons x r ih =>
      intro k acc ρ q l h
      have ex : its[k]? = some x := by have := q 0; rw [Nat.add_zero] at this; rw [← this]; rfl
      obtain ⟨ρ2, y, ρ3, e1, e2, e3⟩ := go k x acc ρ ex h
      obtain ⟨ys, ρ', e4, e5⟩ := ih (k + 1) (acc ++ [y]) _ (fun i => by have := q (i + 1); rw [show k + 1 + i = k + (i + 1) by omega, ← this]; rfl) (by rw [List.length_cons] at l; omega) e3
      refine ⟨ys, ρ', ?_, e5⟩
      unfold lcL
      rw [e1]
      simp only [Rs.opt_some, tru, Rs.cb_ok, if_true, e2]
      exact e4
  exact key its 0 [] ρ (fun i => by rw [Nat.zero_add]) (Nat.zero_add _) h
theorem lcG_inv {m : En → Rs (List D)} {t : Tg} {vs : List Nat} {e : En → Rs D} {ρ ρ1 : En} (its : List D) (J : Nat → List D → En → Prop) (hm : m ρ = .ok its ρ1) (hl : its.length ≤ 100000) (h : J 0 [] (wipeE ρ1 vs))
    (go : ∀ i x acc ρ, its[i]? = some x → J i acc ρ → ∃ ρ2 y ρ3, t.put x ρ = some ρ2 ∧ e ρ2 = .ok y ρ3 ∧ J (i + 1) (acc ++ [y]) (wipeE ρ3 vs)) : ∃ ys ρ2, lcG m t vs tru e ρ = .ok (.L ys) (resE ρ1 ρ2 vs) ∧ J its.length ys ρ2 := by
  obtain ⟨ys, ρ2, e1, e2⟩ := lcL_inv (t := t) (vs := vs) (e := e) its J go h
  refine ⟨ys, ρ2, ?_, e2⟩
  unfold lcG
  rw [hm]
  simp only [Rs.bind_ok, if_pos hl]
  rw [e1]; rfl


-- NOMD
/-! ### the law: questions, moves -/
theorem nm_any : Nm 10 "any" := ⟨by decide +kernel, by decide +kernel, ⟨97, [110, 121], by decide +kernel, by decide +kernel⟩, by decide +kernel⟩
theorem nm_lead : Nm 10 "lead" := ⟨by decide +kernel, by decide +kernel, ⟨108, [101, 97, 100], by decide +kernel, by decide +kernel⟩, by decide +kernel⟩
theorem nm_with : Nm 10 "with" := ⟨by decide +kernel, by decide +kernel, ⟨119, [105, 116, 104], by decide +kernel, by decide +kernel⟩, by decide +kernel⟩
theorem nm_holds : Nm 10 "holds" := ⟨by decide +kernel, by decide +kernel, ⟨104, [111, 108, 100, 115], by decide +kernel, by decide +kernel⟩, by decide +kernel⟩
theorem strs_okc (zs : List Str) : okcs eqcs (zs.map .str) = true := by
  induction zs with
  | nil => rfl
  | cons z zs ih => simp [okcs, okc, ih]
theorem strs_hgt (zs : List Str) : hgts (zs.map D.str) = 0 := by
  induction zs with
  | nil => rfl
  | cons z zs ih => simp [hgts, hgt, ih]
theorem holds_okc (hs : List (Str × Str)) : okcs eqcs (hs.map holdD) = true := by
  induction hs with
  | nil => rfl
  | cons z zs ih => simp [okcs, okc, holdD, ih]
theorem holds_hgt (hs : List (Str × Str)) : hgts (hs.map holdD) ≤ 1 := by
  induction hs with
  | nil => exact Nat.zero_le _
  | cons z zs ih => simp [hgts, hgt, holdD]; omega
theorem lead_okc (l : Option Str) : okc eqcs (leadD l) = true ∧ hgt (leadD l) = 0 := by cases l <;> simp [leadD, okc, hgt]
theorem qR_okc (l : Option Str) (fs : List Str) (hs : List (Str × Str)) : okcs eqcs (qR l fs hs) = true ∧ hgts (qR l fs hs) ≤ 2 := by
  have a := lead_okc l
  have b := strs_okc fs
  have c := strs_hgt fs
  have d := holds_okc hs
  have e := holds_hgt hs
  unfold qR
  refine ⟨by simp [okcs, okc, a.1, b, d], ?_⟩
  simp only [hgts, hgt, a.2, c]
  omega
theorem q_same (l : Option Str) (fs : List Str) (hs : List (Str × Str)) : eqBF eqcs 6 (.obj 0 (qR l fs hs)) (.obj 0 (qR l fs hs)) = some (sB true) := by
  have a := qR_okc l fs hs
  exact eqBF_self (by simp only [okc, a.1, lq_Question]; rfl) (by simp only [hgt]; omega)
theorem t_same (l : Option Str) (fs : List Str) (hs : List (Str × Str)) : neBF eqcs 6 (.tup (qR l fs hs)) (.tup (qR l fs hs)) = some (sB false) := by
  have a := qR_okc l fs hs
  exact neBF_self (by simp [okc, a.1]) (by simp only [hgt]; omega)
theorem s_same (z : Str) : neBF eqcs 6 (.str z) (.str z) = some (sB false) ∧ eqBF eqcs 6 (.str z) (.str z) = some (sB true) := ⟨neBF_self (by simp [okc]) (by simp [hgt]), eqBF_self (by simp [okc]) (by simp [hgt])⟩
theorem h_same (fs : List Str) (hs : List (Str × Str)) : neBF eqcs 6 (.lst [.lst (fs.map .str), .lst (hs.map holdD)]) (.lst [.lst (fs.map .str), .lst (hs.map holdD)]) = some (sB false) := by
  have b := strs_okc fs
  have c := strs_hgt fs
  have d := holds_okc hs
  have e := holds_hgt hs
  exact neBF_self (by simp [okc, okcs, b, d]) (by simp only [hgt, hgts, c]; omega)
theorem mvSame (h s : Int) : neBF eqcs 6 (.tup [.int h, .int s]) (.tup [.int h, .int s]) = some (sB false) ∧ eqBF eqcs 6 (.tup [.int h, .int s]) (.tup [.int h, .int s]) = some (sB true) := ⟨neBF_self (by simp [okc, okcs]) (by simp [hgt, hgts]), eqBF_self (by simp [okc, okcs]) (by simp [hgt, hgts])⟩
theorem ix3 {x y z : Int} {v : Int} (h0 : 0 ≤ v) (h1 : v < 3) (hx : 0 ≤ x ∧ x < 1000000000) (hy : 0 ≤ y ∧ y < 1000000000) (hz : 0 ≤ z ∧ z < 1000000000) : ∃ n : Nat, n < 10 ^ 9 ∧ ixF (.lst [.int x, .int y, .int z]) (.int v) = some (.d (.int n)) := by
  have : v = 0 ∨ v = 1 ∨ v = 2 := by omega
  rcases this with rfl | rfl | rfl
  · exact ⟨x.toNat, by omega, by rw [show ((x.toNat : Nat) : Int) = x by omega]; simp [ixF, ixS, L2.atI, L2.ixN]⟩
  · exact ⟨y.toNat, by omega, by rw [show ((y.toNat : Nat) : Int) = y by omega]; simp [ixF, ixS, L2.atI, L2.ixN]⟩
  · exact ⟨z.toNat, by omega, by rw [show ((z.toNat : Nat) : Int) = z by omega]; simp [ixF, ixS, L2.atI, L2.ixN]⟩
theorem q_none : QOk none [] [] := ⟨(fun _ h => by cases h), (by simp), (fun _ h => by cases h), (fun _ h => by cases h), (by simp), (by simp)⟩
theorem r_law (ns : List Int) (hn : ns.length ≤ 63) : ∃ ρ, m_law [.d (.lst (ns.map .int))] = .ok (.d (.bl true)) ρ := by
  obtain ⟨t, ss', e, rfl⟩ : ∃ t ss', m_law [.d (.lst (ns.map .int))] = .ok t ss' ∧ t = .d (.bl true) := by
    obtain ⟨Z, hZ⟩ : ∃ Z : D, Z = .lst (ns.map .int) := ⟨_, rfl⟩
    rw [← hZ]
    unfold m_law
    refine rt_fn rfl ?_
    let Sh (ρ : En) : Prop := ∃ a b c d e f g h i j k l m n o : S, ρ = [.d Z, a, b, c, d, e, f, g, h, i, j, k, l, m, n, o]
    show Rt (bc _ _ [.d Z, .un, .un, .un, .un, .un, .un, .un, .un, .un, .un, .un, .un, .un, .un, .un]) _
    refine rt_then Sh ?_ (fun ρ' ⟨a, b, c, d, e, f, g, h, i, j, k, l, m, n, o, hq⟩ => by
      subst hq
      have eQ := r_Question (xf := .non) (xh := .non) q_none (.inr ⟨rfl, rfl⟩) (.inr ⟨rfl, rfl⟩)
      have eR := r_qrow (x0 := .d (.obj 0 (qR none [] []))) q_none rfl
      have eD := r_readq q_none
      have eM := r_readmove (h := 0) (s := 0) (by decide) (by decide)
      have t0 : qText none [] [] = "any" := rfl
      have t1 : moveT 0 0 = "0 0" := by decide +kernel
      have t2 : qR none [] [] = [.non, .tup [], .tup []] := rfl
      rw [t0] at eR eD
      rw [t1] at eM
      have eM : m_read_move [.d (.str "0 0")] = .ok (.d (.tup [.int 0, .int 0])) [.d (.str "0 0")] := eM
      have s1 := (s_same "any").2
      have s2 := q_same none [] []
      have s3 := (mvSame 0 0).2
      rw [t2] at eQ eR eD s2
      simp only [leadD] at eQ
      exact rt_ret (s := .d (.bl true)) (ρ1 := [.d Z, a, b, c, d, e, f, g, h, i, j, k, l, m, n, o]) (by simp [fnM, endF_ret, endF_nx, endF_exc, endF_stuck, fin, okB, wn_un, wn_d, wn_L, wn_M, wn_T, wn_O, wn_X, dat_un, dat_d, dat_L, dat_M, dat_T, dat_O, dat_X, bc, b0, ifS, ret, retN, My.set, sto, stoM, drp, asg, asB, asT, notT, andT, orT, op1, op2, opn, pk, ex, kd, rd, mv, frz, toS, arc, ar0, resAll, res_sl, res_dt, Option.bind_some, ixF, ixS, lenF, intF, strF, cmpF, addF, subF, mulF, modF, fdivF, truD, argsS, argS, sls, backS, rsB, callf, put_nm, put_tp, put_tl, puts_nil, puts_cons, lsc, ls0, lstG, tupG, forS, putC, itD, itsOf, itN, rng1, mut1, mut0, appF, Rs.bind_ok, Rs.bind_exc, Rs.bind_stuck, Rs.ctl_ok, Rs.ctl_exc, Rs.ctl_stuck, Rs.opt_some, Rs.opt_none, Ctl.then_nx, Ctl.then_ret, Ctl.then_exc, Ctl.then_brk, Ctl.then_cnt, Ctl.then_stuck, isN, notN, ifE, fldF, isF, List.lookup, clsOf, orr, callm, mkf, mkB, mk0, stf, slG, ext1, augI, chn, leF, ltF, gtF, geF, enm, enmT, part, noPart, tupleF, listF, andV, kan, eQ, eR, eD, eM, s1, s2, s3]) rfl)
    have many : ∃ j : Int, 0 ≤ j ∧ j ≤ 12 ∧ arc (ex (frz (opn max2F (arc (ex (kd (.int 1))) (arc (ex (frz (opn min2F (arc (ex (kd (.int 12))) (arc (ex (frz (opn lenF (arc (pk 0) ar0)))) ar0))))) ar0))))) ar0 [.d Z, .un, .un, .un, .un, .un, .un, .un, .un, .un, .un, .un, .un, .un, .un, .un] = .ok [.dt (.int j)] [.d Z, .un, .un, .un, .un, .un, .un, .un, .un, .un, .un, .un, .un, .un, .un, .un] := by
      obtain ⟨i, hi, i0, i1⟩ : ∃ i : Int, min2F [.int 12, .int ns.length] = some (sI i) ∧ 0 ≤ i ∧ i ≤ 12 := ⟨_, rfl, by split <;> omega, by split <;> omega⟩
      obtain ⟨j, hj, j0, j1⟩ : ∃ j : Int, max2F [.int 1, .int i] = some (sI j) ∧ 0 ≤ j ∧ j ≤ 12 := ⟨_, rfl, by split <;> omega, by split <;> omega⟩
      exact ⟨j, j0, j1, by rw [hZ]; simp [fnM, endF_ret, endF_nx, endF_exc, endF_stuck, fin, okB, wn_un, wn_d, wn_L, wn_M, wn_T, wn_O, wn_X, dat_un, dat_d, dat_L, dat_M, dat_T, dat_O, dat_X, bc, b0, ifS, ret, retN, My.set, sto, stoM, drp, asg, asB, asT, notT, andT, orT, op1, op2, opn, pk, ex, kd, rd, mv, frz, toS, arc, ar0, resAll, res_sl, res_dt, Option.bind_some, ixF, ixS, lenF, intF, strF, cmpF, addF, subF, mulF, modF, fdivF, eqF, neF, deq, truD, argsS, argS, sls, backS, rsB, callf, put_nm, put_tp, put_tl, puts_nil, puts_cons, lsc, ls0, lstG, tupG, forS, putC, itD, itsOf, itN, mut1, mut0, appF, Rs.bind_ok, Rs.bind_exc, Rs.bind_stuck, Rs.ctl_ok, Rs.ctl_exc, Rs.ctl_stuck, Rs.opt_some, Rs.opt_none, Ctl.then_nx, Ctl.then_ret, Ctl.then_exc, Ctl.then_brk, Ctl.then_cnt, Ctl.then_stuck, hi, hj]⟩
    obtain ⟨j0, p0, p8, hm⟩ := many
    refine nx_for (rgI 0 j0.toNat) (fun _ ρ => Sh ρ) (ρ1 := [.d Z, .un, .un, .un, .un, .un, .un, .un, .un, .un, .un, .un, .un, .un, .un, .un]) (it_rng1 hm rfl p0 (by omega)) ⟨_, _, _, _, _, _, _, _, _, _, _, _, _, _, _, rfl⟩ (fun i0 x ρ hx hi => ?_) fun ρ' hi => hi
    obtain ⟨a, b, c, d, e, f, g, h, ii, jj, k, l, m, n, o, rfl⟩ := hi
    obtain ⟨rfl, il⟩ := rgI_get hx
    obtain ⟨j, hj, jn⟩ : ∃ j : Int, j = 0 + (i0 : Int) ∧ 0 ≤ j := ⟨_, rfl, by omega⟩
    rw [← hj]
    refine ⟨[.d Z, .d (.int j), b, c, d, e, f, g, h, ii, jj, k, l, m, n, o], by simp [put_nm], ?_⟩
    let R (s so ld tu fo ce ho ha qu ro fd hd st la : S) : En := [.d Z, .d (.int j), s, so, ld, tu, fo, ce, ho, ha, qu, ro, fd, hd, st, la]
    -- what is drawn
    obtain ⟨v, ev⟩ := r_cell (ns := ns) jn (by omega)
    rw [← hZ] at ev
    obtain ⟨a0, b0', c0, es, s0⟩ := r_state (v + 29 * j)
    obtain ⟨t, ss', en, zs, a1, b1, c1, rfl, rfl, lz, nz, s1⟩ := r_names s0 (m := 3) (by decide) (by decide)
    obtain ⟨v2, a2, b2, c2, e2, p2, q2, s2⟩ := r_digit s1 (n := 4) (by decide) (by decide)
    obtain ⟨w, iw, hw⟩ := ix_ss (zs := ["lead", "with", "holds", "any"]) (i := v2) p2 (by simpa using q2)
    have nw : Nm 10 w := by
      simp only [List.mem_cons, List.not_mem_nil, or_false] at hw
      rcases hw with rfl | rfl | rfl | rfl
      · exact nm_lead
      · exact nm_with
      · exact nm_holds
      · exact nm_any
    have iw' : ixF (.lst [.str "lead", .str "with", .str "holds", .str "any"]) (.int v2) = some (.d (.str w)) := iw
    obtain ⟨ks, hks⟩ : ∃ ks, ks = zs ++ [w] := ⟨_, rfl⟩
    have lk : ks.length = 4 := by rw [hks, List.length_append, lz]; rfl
    have nk : ∀ z ∈ ks, Nm 10 z := fun z hz => by
      rw [hks] at hz
      rcases List.mem_append.mp hz with hz | hz
      · exact (nz.1 z hz).mono (by decide)
      · rw [List.mem_singleton.mp hz]; exact nw
    have kd9 : zs.map D.str ++ [.str w] = ks.map .str := by rw [hks]; simp
    refine nx_bc (R (sd a0 b0' c0) c d e f g h ii jj k l m n o) (by simp only [R]; simp [fnM, endF_ret, endF_nx, endF_exc, endF_stuck, fin, okB, wn_un, wn_d, wn_L, wn_M, wn_T, wn_O, wn_X, dat_un, dat_d, dat_L, dat_M, dat_T, dat_O, dat_X, bc, b0, ifS, ret, retN, My.set, sto, stoM, drp, asg, asB, asT, notT, andT, orT, op1, op2, opn, pk, ex, kd, rd, mv, frz, toS, arc, ar0, resAll, res_sl, res_dt, Option.bind_some, ixF, ixS, lenF, intF, strF, cmpF, addF, subF, mulF, modF, fdivF, eqF, neF, deq, truD, argsS, argS, sls, backS, rsB, callf, put_nm, put_tp, put_tl, puts_nil, puts_cons, lsc, ls0, lstG, tupG, forS, putC, itD, itsOf, itN, rng1, mut1, mut0, appF, Rs.bind_ok, Rs.bind_exc, Rs.bind_stuck, Rs.ctl_ok, Rs.ctl_exc, Rs.ctl_stuck, Rs.opt_some, Rs.opt_none, Ctl.then_nx, Ctl.then_ret, Ctl.then_exc, Ctl.then_brk, Ctl.then_cnt, Ctl.then_stuck, ev, es]) ?_
    refine nx_bc (R (sd a2 b2 c2) (.L (ks.map .str)) d e f g h ii jj k l m n o) (by
      have lzz : (zs.map D.str).length ≤ 1000 := by rw [List.length_map, lz]; decide
      simp only [R]
      rw [← kd9]
      generalize zs.map D.str = X at en lzz
      simp [fnM, endF_ret, endF_nx, endF_exc, endF_stuck, fin, okB, wn_un, wn_d, wn_L, wn_M, wn_T, wn_O, wn_X, dat_un, dat_d, dat_L, dat_M, dat_T, dat_O, dat_X, bc, b0, ifS, ret, retN, My.set, sto, stoM, drp, asg, asB, asT, notT, andT, orT, op1, op2, opn, pk, ex, kd, rd, mv, frz, toS, arc, ar0, resAll, res_sl, res_dt, Option.bind_some, lenF, intF, strF, cmpF, addF, subF, mulF, modF, fdivF, eqF, neF, deq, truD, argsS, argS, sls, backS, rsB, callf, put_nm, put_tp, put_tl, puts_nil, puts_cons, lsc, ls0, lstG, tupG, forS, putC, itD, itsOf, itN, rng1, mut1, mut0, appF, Rs.bind_ok, Rs.bind_exc, Rs.bind_stuck, Rs.ctl_ok, Rs.ctl_exc, Rs.ctl_stuck, Rs.opt_some, Rs.opt_none, Ctl.then_nx, Ctl.then_ret, Ctl.then_exc, Ctl.then_brk, Ctl.then_cnt, Ctl.then_stuck, en, e2, iw', show X.length ≤ 99999 by omega, show X.length + 1 ≤ 100000 by omega]) ?_
    obtain ⟨X, hX⟩ : ∃ X, X = ks.map D.str := ⟨_, rfl⟩
    have pick : ∀ v : Int, 0 ≤ v → v < 4 → ∃ z, ixF (.lst X) (.int v) = some (.d (.str z)) ∧ z ∈ ks := fun v h0 h1 => by rw [hX]; exact ix_ss h0 (by rw [lk]; exact h1)
    rw [← hX]
    -- the leader's mark
    obtain ⟨v3, a3, b3, c3, e3, p3, q3, s3⟩ := r_digit s2 (n := 4) (by decide) (by decide)
    obtain ⟨y3, i3, hy3⟩ := pick v3 p3 q3
    obtain ⟨v4, a4, b4, c4, e4, p4, q4, s4⟩ := r_digit s3 (n := 2) (by decide) (by decide)
    obtain ⟨ld, i4, hld⟩ : ∃ ld : Option Str, ixF (.lst [.non, .str y3]) (.int v4) = some (.d (leadD ld)) ∧ ∀ z, ld = some z → z ∈ ks := by
      have : v4 = 0 ∨ v4 = 1 := by omega
      rcases this with rfl | rfl
      · exact ⟨none, by simp [ixF, ixS, L2.atI, L2.ixN, leadD], fun z h => by cases h⟩
      · exact ⟨some y3, by simp [ixF, ixS, L2.atI, L2.ixN, leadD], fun z h => by cases h; exact hy3⟩
    refine nx_bc (R (sd a4 b4 c4) (.L X) (.d (leadD ld)) e f g h ii jj k l m n o) (by simp only [R]; simp [fnM, endF_ret, endF_nx, endF_exc, endF_stuck, fin, okB, wn_un, wn_d, wn_L, wn_M, wn_T, wn_O, wn_X, dat_un, dat_d, dat_L, dat_M, dat_T, dat_O, dat_X, bc, b0, ifS, ret, retN, My.set, sto, stoM, drp, asg, asB, asT, notT, andT, orT, op1, op2, opn, pk, ex, kd, rd, mv, frz, toS, arc, ar0, resAll, res_sl, res_dt, Option.bind_some, lenF, intF, strF, cmpF, addF, subF, mulF, modF, fdivF, eqF, neF, deq, truD, argsS, argS, sls, backS, rsB, callf, put_nm, put_tp, put_tl, puts_nil, puts_cons, lsc, ls0, lstG, tupG, forS, putC, itD, itsOf, itN, rng1, mut1, mut0, appF, Rs.bind_ok, Rs.bind_exc, Rs.bind_stuck, Rs.ctl_ok, Rs.ctl_exc, Rs.ctl_stuck, Rs.opt_some, Rs.opt_none, Ctl.then_nx, Ctl.then_ret, Ctl.then_exc, Ctl.then_brk, Ctl.then_cnt, Ctl.then_stuck, e3, i3, e4, i4]) ?_
    -- the followers' marks
    obtain ⟨v5, a5, b5, c5, e5, p5, q5, s5⟩ := r_digit s4 (n := 7) (by decide) (by decide)
    have l5 : (rgI 0 v5.toNat).length ≤ 100000 := by rw [rgI_len]; omega
    have g5 : arc (ex (frz (callf 2 m_l_digit (arc (pk 2) (arc (ex (kd (.int 7))) ar0))))) ar0 (R (sd a4 b4 c4) (.L X) (.d (leadD ld)) e f g h ii jj k l m n o) = .ok [.dt (.int v5)] (R (sd a5 b5 c5) (.L X) (.d (leadD ld)) e f g h ii jj k l m n o) := by simp only [R]; simp [fnM, endF_ret, endF_nx, endF_exc, endF_stuck, fin, okB, wn_un, wn_d, wn_L, wn_M, wn_T, wn_O, wn_X, dat_un, dat_d, dat_L, dat_M, dat_T, dat_O, dat_X, bc, b0, ifS, ret, retN, My.set, sto, stoM, drp, asg, asB, asT, notT, andT, orT, op1, op2, opn, pk, ex, kd, rd, mv, frz, toS, arc, ar0, resAll, res_sl, res_dt, Option.bind_some, ixF, ixS, lenF, intF, strF, cmpF, addF, subF, mulF, modF, fdivF, eqF, neF, deq, truD, argsS, argS, sls, backS, rsB, callf, put_nm, put_tp, put_tl, puts_nil, puts_cons, lsc, ls0, lstG, tupG, forS, putC, itD, itsOf, itN, mut1, mut0, appF, Rs.bind_ok, Rs.bind_exc, Rs.bind_stuck, Rs.ctl_ok, Rs.ctl_exc, Rs.ctl_stuck, Rs.opt_some, Rs.opt_none, Ctl.then_nx, Ctl.then_ret, Ctl.then_exc, Ctl.then_brk, Ctl.then_cnt, Ctl.then_stuck, e5]
    obtain ⟨ys, ρ9, el, fs, a6, b6, c6, rfl, rfl, lfs, nfs, s6⟩ := lcG_inv (t := .nm 5) (vs := [5]) (e := frz (op2 ixF (pk 3) (ex (frz (callf 2 m_l_digit (arc (pk 2) (arc (ex (kd (.int 4))) ar0))))))) (rgI 0 v5.toNat)
      (fun i acc ρ => ∃ (fs : List Str) (a b c : Int), acc = fs.map .str ∧ ρ = R (sd a b c) (.L X) (.d (leadD ld)) .un f g h ii jj k l m n o ∧ fs.length = i ∧ (∀ z ∈ fs, z ∈ ks) ∧ Sd a b c)
      (it_rng1 g5 rfl p5 (by omega)) l5 ⟨[], a5, b5, c5, rfl, by simp only [R]; simp [wipeE], rfl, (fun _ h => by cases h), s5⟩ (fun i x acc ρ hx hi => by
        obtain ⟨fs, a, b, c, rfl, rfl, hl, hf, hS⟩ := hi
        obtain ⟨v6, a7, b7, c7, e7, p7, q7, s7⟩ := r_digit hS (n := 4) (by decide) (by decide)
        obtain ⟨y6, i6, hy6⟩ := pick v6 p7 q7
        refine ⟨R (sd a b c) (.L X) (.d (leadD ld)) (.d x) f g h ii jj k l m n o, .str y6, R (sd a7 b7 c7) (.L X) (.d (leadD ld)) (.d x) f g h ii jj k l m n o, by simp only [R]; simp [put_nm], by simp only [R]; simp [fnM, endF_ret, endF_nx, endF_exc, endF_stuck, fin, okB, wn_un, wn_d, wn_L, wn_M, wn_T, wn_O, wn_X, dat_un, dat_d, dat_L, dat_M, dat_T, dat_O, dat_X, bc, b0, ifS, ret, retN, My.set, sto, stoM, drp, asg, asB, asT, notT, andT, orT, op1, op2, opn, pk, ex, kd, rd, mv, frz, toS, arc, ar0, resAll, res_sl, res_dt, Option.bind_some, lenF, intF, strF, cmpF, addF, subF, mulF, modF, fdivF, eqF, neF, deq, truD, argsS, argS, sls, backS, rsB, callf, put_nm, put_tp, put_tl, puts_nil, puts_cons, lsc, ls0, lstG, tupG, forS, putC, itD, itsOf, itN, rng1, mut1, mut0, appF, Rs.bind_ok, Rs.bind_exc, Rs.bind_stuck, Rs.ctl_ok, Rs.ctl_exc, Rs.ctl_stuck, Rs.opt_some, Rs.opt_none, Ctl.then_nx, Ctl.then_ret, Ctl.then_exc, Ctl.then_brk, Ctl.then_cnt, Ctl.then_stuck, e7, i6], fs ++ [y6], a7, b7, c7, by simp, by simp only [R]; simp [wipeE], by simp [hl], fun z hz => ?_, s7⟩
        rcases List.mem_append.mp hz with hz | hz
        · exact hf z hz
        · rw [List.mem_singleton.mp hz]; exact hy6)
    rw [rgI_len] at lfs
    obtain ⟨tu, htu⟩ : ∃ tu, resE (R (sd a5 b5 c5) (.L X) (.d (leadD ld)) e f g h ii jj k l m n o) (R (sd a6 b6 c6) (.L X) (.d (leadD ld)) .un f g h ii jj k l m n o) [5] = R (sd a6 b6 c6) (.L X) (.d (leadD ld)) tu f g h ii jj k l m n o := by cases e <;> exact ⟨_, rfl⟩
    rw [htu] at el
    refine nx_bc (R (sd a6 b6 c6) (.L X) (.d (leadD ld)) tu (.L (fs.map .str)) g h ii jj k l m n o) (set_ok el) ?_
    -- the cells
    obtain ⟨v8, a8, b8, c8, e8, p8, q8, s8⟩ := r_digit s6 (n := 5) (by decide) (by decide)
    obtain ⟨so1, so2⟩ := sortU_sub ks
    obtain ⟨cs, hcs⟩ : ∃ cs, cs = (sortU ks).take v8.toNat := ⟨_, rfl⟩
    have cnd : cs.Nodup := by rw [hcs]; exact so1.sublist (List.take_sublist _ _)
    have csub : ∀ z ∈ cs, z ∈ ks := fun z hz => by rw [hcs] at hz; exact so2 z (List.mem_of_mem_take hz)
    have clen : cs.length ≤ 4 := by rw [hcs, List.length_take]; omega
    have cutc : cutD ((sortU ks).map D.str) none (some v8) = cs.map .str := by rw [cutX_to _ p8, hcs, List.map_take]
    have sz : setF [.lst X] = some ks := by
      rw [hX]
      unfold setF
      simp only [strs_map, Option.bind_some]
      rw [if_pos (by omega)]
    obtain ⟨F, hF⟩ : ∃ F, F = fs.map D.str := ⟨_, rfl⟩
    rw [← hF]
    have esl : slG (ex (frz (srtZ (setZ (arc (pk 3) ar0))))) noPart (part (frz (callf 2 m_l_digit (arc (pk 2) (arc (ex (kd (.int 5))) ar0))))) (R (sd a6 b6 c6) (.L X) (.d (leadD ld)) tu (.L F) g h ii jj k l m n o) = .ok (.L (cs.map .str)) (R (sd a8 b8 c8) (.L X) (.d (leadD ld)) tu (.L F) g h ii jj k l m n o) := by
      have ez : setZ (arc (pk 3) ar0) (R (sd a6 b6 c6) (.L X) (.d (leadD ld)) tu (.L F) g h ii jj k l m n o) = .ok ks (R (sd a6 b6 c6) (.L X) (.d (leadD ld)) tu (.L F) g h ii jj k l m n o) := by
        simp only [R]
        simp [setZ, arc, ar0, pk, dat_L, resAll, res_sl, sz]
      have er : ex (frz (srtZ (setZ (arc (pk 3) ar0)))) (R (sd a6 b6 c6) (.L X) (.d (leadD ld)) tu (.L F) g h ii jj k l m n o) = .ok (.dt (.lst ((sortU ks).map .str))) (R (sd a6 b6 c6) (.L X) (.d (leadD ld)) tu (.L F) g h ii jj k l m n o) := by
        unfold ex frz srtZ
        rw [ez]; rfl
      have ep : part (frz (callf 2 m_l_digit (arc (pk 2) (arc (ex (kd (.int 5))) ar0)))) (R (sd a6 b6 c6) (.L X) (.d (leadD ld)) tu (.L F) g h ii jj k l m n o) = .ok (some v8) (R (sd a8 b8 c8) (.L X) (.d (leadD ld)) tu (.L F) g h ii jj k l m n o) := by
        simp only [R]
        simp [fnM, endF_ret, endF_nx, endF_exc, endF_stuck, fin, okB, wn_un, wn_d, wn_L, wn_M, wn_T, wn_O, wn_X, dat_un, dat_d, dat_L, dat_M, dat_T, dat_O, dat_X, bc, b0, ifS, ret, retN, My.set, sto, stoM, drp, asg, asB, asT, notT, andT, orT, op1, op2, opn, pk, ex, kd, rd, mv, frz, toS, arc, ar0, resAll, res_sl, res_dt, Option.bind_some, ixF, ixS, lenF, intF, strF, cmpF, addF, subF, mulF, modF, fdivF, eqF, neF, deq, truD, argsS, argS, sls, backS, rsB, callf, put_nm, put_tp, put_tl, puts_nil, puts_cons, lsc, ls0, lstG, tupG, forS, putC, itD, itsOf, itN, rng1, mut1, mut0, appF, Rs.bind_ok, Rs.bind_exc, Rs.bind_stuck, Rs.ctl_ok, Rs.ctl_exc, Rs.ctl_stuck, Rs.opt_some, Rs.opt_none, Ctl.then_nx, Ctl.then_ret, Ctl.then_exc, Ctl.then_brk, Ctl.then_cnt, Ctl.then_stuck, part, e8]
      unfold slG noPart
      rw [er]
      simp only [Rs.bind_ok]
      rw [ep]
      simp only [Rs.bind_ok, Hd.res, Rs.opt_some]
      show Rs.opt (some (S.L (cutD _ _ _))) _ = _
      rw [cutc]; rfl
    refine nx_bc (R (sd a8 b8 c8) (.L X) (.d (leadD ld)) tu (.L F) (.L (cs.map .str)) h ii jj k l m n o) (set_ok esl) ?_
    -- the values
    obtain ⟨ys, ρ9, el, hs, a9, b9, c9, rfl, rfl, hhs, nhs, s9⟩ := lcG_inv (m := itD (rd 7)) (t := .nm 15) (vs := [15]) (e := frz (tupG (lsc (rd 15) (lsc (frz (op2 ixF (pk 3) (ex (frz (callf 2 m_l_digit (arc (pk 2) (arc (ex (kd (.int 4))) ar0))))))) ls0)))) (ρ := R (sd a8 b8 c8) (.L X) (.d (leadD ld)) tu (.L F) (.L (cs.map .str)) h ii jj k l m n o) (ρ1 := R (sd a8 b8 c8) (.L X) (.d (leadD ld)) tu (.L F) (.d (.lst (cs.map .str))) h ii jj k l m n o) (cs.map .str)
      (fun i acc ρ => ∃ (hs : List (Str × Str)) (a b c : Int), acc = hs.map holdD ∧ ρ = R (sd a b c) (.L X) (.d (leadD ld)) tu (.L F) (.d (.lst (cs.map .str))) h ii jj k l m n .un ∧ hs.map (·.1) = cs.take i ∧ (∀ z ∈ hs, z.2 ∈ ks) ∧ Sd a b c)
      (by simp only [R]; simp [fnM, endF_ret, endF_nx, endF_exc, endF_stuck, fin, okB, wn_un, wn_d, wn_L, wn_M, wn_T, wn_O, wn_X, dat_un, dat_d, dat_L, dat_M, dat_T, dat_O, dat_X, bc, b0, ifS, ret, retN, My.set, sto, stoM, drp, asg, asB, asT, notT, andT, orT, op1, op2, opn, pk, ex, kd, rd, mv, frz, toS, arc, ar0, resAll, res_sl, res_dt, Option.bind_some, ixF, ixS, lenF, intF, strF, cmpF, addF, subF, mulF, modF, fdivF, eqF, neF, deq, truD, argsS, argS, sls, backS, rsB, callf, put_nm, put_tp, put_tl, puts_nil, puts_cons, lsc, ls0, lstG, tupG, forS, putC, itD, itsOf, itN, rng1, mut1, mut0, appF, Rs.bind_ok, Rs.bind_exc, Rs.bind_stuck, Rs.ctl_ok, Rs.ctl_exc, Rs.ctl_stuck, Rs.opt_some, Rs.opt_none, Ctl.then_nx, Ctl.then_ret, Ctl.then_exc, Ctl.then_brk, Ctl.then_cnt, Ctl.then_stuck, itsOf]) (by rw [List.length_map]; omega) ⟨[], a8, b8, c8, rfl, by simp only [R]; simp [wipeE], by simp, (fun _ h => by cases h), s8⟩ (fun i x acc ρ hx hi => by
        obtain ⟨hs, a, b, c, rfl, rfl, hl, hf, hS⟩ := hi
        rw [List.getElem?_map] at hx
        obtain ⟨cc, ecc, rfl⟩ := Option.map_eq_some_iff.mp hx
        obtain ⟨v6, a7, b7, c7, e7, p7, q7, s7⟩ := r_digit hS (n := 4) (by decide) (by decide)
        obtain ⟨y6, i6, hy6⟩ := pick v6 p7 q7
        refine ⟨R (sd a b c) (.L X) (.d (leadD ld)) tu (.L F) (.d (.lst (cs.map .str))) h ii jj k l m n (.d (.str cc)), holdD (cc, y6), R (sd a7 b7 c7) (.L X) (.d (leadD ld)) tu (.L F) (.d (.lst (cs.map .str))) h ii jj k l m n (.d (.str cc)), by simp only [R]; simp [put_nm], ?_, hs ++ [(cc, y6)], a7, b7, c7, by simp, by simp only [R]; simp [wipeE], ?_, fun z hz => ?_, s7⟩
        · simp only [R, holdD]
          generalize cs.map D.str = CK
          simp [fnM, endF_ret, endF_nx, endF_exc, endF_stuck, fin, okB, wn_un, wn_d, wn_L, wn_M, wn_T, wn_O, wn_X, dat_un, dat_d, dat_L, dat_M, dat_T, dat_O, dat_X, bc, b0, ifS, ret, retN, My.set, sto, stoM, drp, asg, asB, asT, notT, andT, orT, op1, op2, opn, pk, ex, kd, rd, mv, frz, toS, arc, ar0, resAll, res_sl, res_dt, Option.bind_some, lenF, intF, strF, cmpF, addF, subF, mulF, modF, fdivF, eqF, neF, deq, truD, argsS, argS, sls, backS, rsB, callf, put_nm, put_tp, put_tl, puts_nil, puts_cons, lsc, ls0, lstG, tupG, forS, putC, itD, itsOf, itN, rng1, mut1, mut0, appF, Rs.bind_ok, Rs.bind_exc, Rs.bind_stuck, Rs.ctl_ok, Rs.ctl_exc, Rs.ctl_stuck, Rs.opt_some, Rs.opt_none, Ctl.then_nx, Ctl.then_ret, Ctl.then_exc, Ctl.then_brk, Ctl.then_cnt, Ctl.then_stuck, e7, i6]
        · rw [List.map_append, hl, take_snoc ecc]; rfl
        · rcases List.mem_append.mp hz with hz | hz
          · exact hf z hz
          · rw [List.mem_singleton.mp hz]; exact hy6)
    obtain ⟨CK, hCK⟩ : ∃ CK, CK = cs.map D.str := ⟨_, rfl⟩
    rw [← hCK] at el ⊢
    rw [List.length_map, List.take_length] at hhs
    obtain ⟨la, hla⟩ : ∃ la, resE (R (sd a8 b8 c8) (.L X) (.d (leadD ld)) tu (.L F) (.d (.lst CK)) h ii jj k l m n o) (R (sd a9 b9 c9) (.L X) (.d (leadD ld)) tu (.L F) (.d (.lst CK)) h ii jj k l m n .un) [15] = R (sd a9 b9 c9) (.L X) (.d (leadD ld)) tu (.L F) (.d (.lst CK)) h ii jj k l m n la := by cases o <;> exact ⟨_, rfl⟩
    rw [hla] at el
    refine nx_bc (R (sd a9 b9 c9) (.L X) (.d (leadD ld)) tu (.L F) (.d (.lst CK)) (.L (hs.map holdD)) ii jj k l m n la) (set_ok el) ?_
    have lhs : hs.length ≤ 4 := by have := congrArg List.length hhs; rw [List.length_map] at this; omega
    have ok : QOk ld fs hs := ⟨fun z hz => nk z (hld z hz), by omega, fun z hz => nk z (nfs z hz), fun z hz => ⟨nk _ (csub _ (by rw [← hhs]; exact List.mem_map_of_mem hz)), nk _ (nhs z hz)⟩, by rw [hhs]; exact cnd, by omega⟩
    have eQ := r_Question ok (xf := .lst (fs.map .str)) (xh := .lst (hs.map holdD)) (.inl rfl) (.inl rfl)
    have eW := r_words82 ok
    have eR1 := r_qrow (x0 := .O 0 (qR ld fs hs)) ok rfl
    have eD := r_readq ok
    have s1 := (s_same (qText ld fs hs)).1
    have s2 := q_same ld fs hs
    have s3 := t_same ld fs hs
    have s4' := h_same fs hs
    have lF : F.length ≤ 100000 := by rw [hF, List.length_map]; omega
    have lH : (hs.map holdD).length ≤ 100000 := by rw [List.length_map]; omega
    have tq : qR ld fs hs = [leadD ld, .tup (fs.map .str), .tup (hs.map holdD)] := rfl
    obtain ⟨H, hH⟩ : ∃ H, H = hs.map holdD := ⟨_, rfl⟩
    rw [tq] at eQ eR1 eD s2 s3
    rw [← hF] at eQ eW eR1 eD s2 s3 s4'
    rw [← hH] at eQ eW eR1 eD s2 s3 s4' lH ⊢
    obtain ⟨T, hT⟩ : ∃ T, T = qText ld fs hs := ⟨_, rfl⟩
    rw [← hT] at eW eR1 eD s1
    obtain ⟨LD, hLD⟩ : ∃ LD, LD = leadD ld := ⟨_, rfl⟩
    rw [← hLD] at eQ eW eR1 eD s2 s3 ⊢
    clear el esl hla htu
    refine nx_bc (R (sd a9 b9 c9) (.L X) (.d LD) tu (.L F) (.d (.lst CK)) (.L H) (.L [.lst F, .lst H]) jj k l m n la) (by simp only [R]; simp [fnM, endF_ret, endF_nx, endF_exc, endF_stuck, fin, okB, wn_un, wn_d, wn_L, wn_M, wn_T, wn_O, wn_X, dat_un, dat_d, dat_L, dat_M, dat_T, dat_O, dat_X, bc, b0, ifS, ret, retN, My.set, sto, stoM, drp, asg, asB, asT, notT, andT, orT, op1, op2, opn, pk, ex, kd, rd, mv, frz, toS, arc, ar0, resAll, res_sl, res_dt, Option.bind_some, ixF, ixS, lenF, intF, strF, cmpF, addF, subF, mulF, modF, fdivF, eqF, neF, deq, truD, argsS, argS, sls, backS, rsB, callf, put_nm, put_tp, put_tl, puts_nil, puts_cons, lsc, ls0, lstG, tupG, forS, putC, itD, itsOf, itN, rng1, mut1, mut0, appF, Rs.bind_ok, Rs.bind_exc, Rs.bind_stuck, Rs.ctl_ok, Rs.ctl_exc, Rs.ctl_stuck, Rs.opt_some, Rs.opt_none, Ctl.then_nx, Ctl.then_ret, Ctl.then_exc, Ctl.then_brk, Ctl.then_cnt, Ctl.then_stuck, listF, lF, lH]) ?_
    refine nx_bc (R (sd a9 b9 c9) (.L X) (.d LD) tu (.L F) (.d (.lst CK)) (.L H) (.L [.lst F, .lst H]) (.O 0 [LD, .tup F, .tup H]) k l m n la) (by simp only [R]; simp [fnM, endF_ret, endF_nx, endF_exc, endF_stuck, fin, okB, wn_un, wn_d, wn_L, wn_M, wn_T, wn_O, wn_X, dat_un, dat_d, dat_L, dat_M, dat_T, dat_O, dat_X, bc, b0, ifS, ret, retN, My.set, sto, stoM, drp, asg, asB, asT, notT, andT, orT, op1, op2, opn, pk, ex, kd, rd, mv, frz, toS, arc, ar0, resAll, res_sl, res_dt, Option.bind_some, ixF, ixS, lenF, intF, strF, cmpF, addF, subF, mulF, modF, fdivF, eqF, neF, deq, truD, argsS, argS, sls, backS, rsB, callf, put_nm, put_tp, put_tl, puts_nil, puts_cons, lsc, ls0, lstG, tupG, forS, putC, itD, itsOf, itN, rng1, mut1, mut0, appF, Rs.bind_ok, Rs.bind_exc, Rs.bind_stuck, Rs.ctl_ok, Rs.ctl_exc, Rs.ctl_stuck, Rs.opt_some, Rs.opt_none, Ctl.then_nx, Ctl.then_ret, Ctl.then_exc, Ctl.then_brk, Ctl.then_cnt, Ctl.then_stuck, L2.atI, L2.ixN, mkf, mkB, eQ]) ?_
    refine nx_bc (R (sd a9 b9 c9) (.L X) (.d LD) tu (.d (.lst F)) (.d (.lst CK)) (.d (.lst H)) (.L [.lst F, .lst H]) (.O 0 [LD, .tup F, .tup H]) (.d (.str T)) l m n la) (by simp only [R]; simp [fnM, endF_ret, endF_nx, endF_exc, endF_stuck, fin, okB, wn_un, wn_d, wn_L, wn_M, wn_T, wn_O, wn_X, dat_un, dat_d, dat_L, dat_M, dat_T, dat_O, dat_X, bc, b0, ifS, ret, retN, My.set, sto, stoM, drp, asg, asB, asT, notT, andT, orT, op1, op2, opn, pk, ex, kd, rd, mv, frz, toS, arc, ar0, resAll, res_sl, res_dt, Option.bind_some, ixF, ixS, lenF, intF, strF, cmpF, addF, subF, mulF, modF, fdivF, eqF, neF, deq, truD, argsS, argS, sls, backS, rsB, callf, put_nm, put_tp, put_tl, puts_nil, puts_cons, lsc, ls0, lstG, tupG, forS, putC, itD, itsOf, itN, rng1, mut1, mut0, appF, Rs.bind_ok, Rs.bind_exc, Rs.bind_stuck, Rs.ctl_ok, Rs.ctl_exc, Rs.ctl_stuck, Rs.opt_some, Rs.opt_none, Ctl.then_nx, Ctl.then_ret, Ctl.then_exc, Ctl.then_brk, Ctl.then_cnt, Ctl.then_stuck, eW]) ?_
    let G (tu fd hd st : S) : En := R (sd a9 b9 c9) (.L X) (.d LD) tu (.d (.lst F)) (.d (.lst CK)) (.d (.lst H)) (.L [.lst F, .lst H]) (.O 0 [LD, .tup F, .tup H]) (.d (.str T)) fd hd st la
    refine nx_then (fun ρ => ∃ tu fd, ρ = G tu fd m n) (nx_for (rgI 0 2) (fun _ ρ => ∃ tu fd, ρ = G tu fd m n) (ρ1 := G tu l m n) (by simp only [G, R]; simp [fnM, endF_ret, endF_nx, endF_exc, endF_stuck, fin, okB, wn_un, wn_d, wn_L, wn_M, wn_T, wn_O, wn_X, dat_un, dat_d, dat_L, dat_M, dat_T, dat_O, dat_X, bc, b0, ifS, ret, retN, My.set, sto, stoM, drp, asg, asB, asT, notT, andT, orT, op1, op2, opn, pk, ex, kd, rd, mv, frz, toS, arc, ar0, resAll, res_sl, res_dt, Option.bind_some, ixF, ixS, lenF, intF, strF, cmpF, addF, subF, mulF, modF, fdivF, eqF, neF, deq, truD, argsS, argS, sls, backS, rsB, callf, put_nm, put_tp, put_tl, puts_nil, puts_cons, lsc, ls0, lstG, tupG, forS, putC, itD, itsOf, itN, rng1, mut1, mut0, appF, Rs.bind_ok, Rs.bind_exc, Rs.bind_stuck, Rs.ctl_ok, Rs.ctl_exc, Rs.ctl_stuck, Rs.opt_some, Rs.opt_none, Ctl.then_nx, Ctl.then_ret, Ctl.then_exc, Ctl.then_brk, Ctl.then_cnt, Ctl.then_stuck]) ⟨_, _, rfl⟩ (fun i1 x ρ hx hi => ?_) fun ρ' hq => hq) (fun ρ hρ => ?_)
    · obtain ⟨tu, fd, rfl⟩ := hi
      refine ⟨G (.d x) fd m n, by simp only [G, R]; simp [put_nm], ?_⟩
      refine nx_bc (G (.d x) (.O 0 [LD, .tup F, .tup H]) m n) (by simp only [G, R]; simp [fnM, endF_ret, endF_nx, endF_exc, endF_stuck, fin, okB, wn_un, wn_d, wn_L, wn_M, wn_T, wn_O, wn_X, dat_un, dat_d, dat_L, dat_M, dat_T, dat_O, dat_X, bc, b0, ifS, ret, retN, My.set, sto, stoM, drp, asg, asB, asT, notT, andT, orT, op1, op2, opn, pk, ex, kd, rd, mv, frz, toS, arc, ar0, resAll, res_sl, res_dt, Option.bind_some, ixF, ixS, lenF, intF, strF, cmpF, addF, subF, mulF, modF, fdivF, eqF, neF, deq, truD, argsS, argS, sls, backS, rsB, callf, put_nm, put_tp, put_tl, puts_nil, puts_cons, lsc, ls0, lstG, tupG, forS, putC, itD, itsOf, itN, rng1, mut1, mut0, appF, Rs.bind_ok, Rs.bind_exc, Rs.bind_stuck, Rs.ctl_ok, Rs.ctl_exc, Rs.ctl_stuck, Rs.opt_some, Rs.opt_none, Ctl.then_nx, Ctl.then_ret, Ctl.then_exc, Ctl.then_brk, Ctl.then_cnt, Ctl.then_stuck, eD]) ?_
      refine nx_then (fun ρ => ρ = G (.d x) (.O 0 [LD, .tup F, .tup H]) m n) (nx_if false (ρ1 := G (.d x) (.O 0 [LD, .tup F, .tup H]) m n) (by simp only [G, R]; simp [fnM, endF_ret, endF_nx, endF_exc, endF_stuck, fin, okB, wn_un, wn_d, wn_L, wn_M, wn_T, wn_O, wn_X, dat_un, dat_d, dat_L, dat_M, dat_T, dat_O, dat_X, bc, b0, ifS, ret, retN, My.set, sto, stoM, drp, asg, asB, asT, notT, andT, orT, op1, op2, opn, pk, ex, kd, rd, mv, frz, toS, arc, ar0, resAll, res_sl, res_dt, Option.bind_some, ixF, ixS, lenF, intF, strF, cmpF, addF, subF, mulF, modF, fdivF, truD, argsS, argS, sls, backS, rsB, callf, put_nm, put_tp, put_tl, puts_nil, puts_cons, lsc, ls0, lstG, tupG, forS, putC, itD, itsOf, itN, rng1, mut1, mut0, appF, Rs.bind_ok, Rs.bind_exc, Rs.bind_stuck, Rs.ctl_ok, Rs.ctl_exc, Rs.ctl_stuck, Rs.opt_some, Rs.opt_none, Ctl.then_nx, Ctl.then_ret, Ctl.then_exc, Ctl.then_brk, Ctl.then_cnt, Ctl.then_stuck, isN, notN, ifE, fldF, isF, List.lookup, clsOf, orr, callm, mkf, mkB, mk0, stf, slG, ext1, augI, chn, leF, ltF, gtF, geF, enm, enmT, part, noPart, tupleF, listF, eR1, s1, s2, q_Question]) (fun z => nomatch z) fun _ => nx_b0 rfl) (fun ρ hρ => ?_)
      subst hρ
      refine nx_then (fun ρ => ρ = G (.d x) (.O 0 [LD, .tup F, .tup H]) m n) (nx_if false (ρ1 := G (.d x) (.O 0 [LD, .tup F, .tup H]) m n) (by simp only [G, R]; simp [fnM, endF_ret, endF_nx, endF_exc, endF_stuck, fin, okB, wn_un, wn_d, wn_L, wn_M, wn_T, wn_O, wn_X, dat_un, dat_d, dat_L, dat_M, dat_T, dat_O, dat_X, bc, b0, ifS, ret, retN, My.set, sto, stoM, drp, asg, asB, asT, notT, andT, orT, op1, op2, opn, pk, ex, kd, rd, mv, frz, toS, arc, ar0, resAll, res_sl, res_dt, Option.bind_some, ixF, ixS, lenF, intF, strF, cmpF, addF, subF, mulF, modF, fdivF, truD, argsS, argS, sls, backS, rsB, callf, put_nm, put_tp, put_tl, puts_nil, puts_cons, lsc, ls0, lstG, tupG, forS, putC, itD, itsOf, itN, rng1, mut1, mut0, appF, Rs.bind_ok, Rs.bind_exc, Rs.bind_stuck, Rs.ctl_ok, Rs.ctl_exc, Rs.ctl_stuck, Rs.opt_some, Rs.opt_none, Ctl.then_nx, Ctl.then_ret, Ctl.then_exc, Ctl.then_brk, Ctl.then_cnt, Ctl.then_stuck, isN, notN, ifE, fldF, isF, List.lookup, clsOf, orr, callm, mkf, mkB, mk0, stf, slG, ext1, augI, chn, leF, ltF, gtF, geF, enm, enmT, part, noPart, tupleF, listF, tupleF, lF, lH, s3]) (fun z => nomatch z) fun _ => nx_b0 rfl) (fun ρ hρ => ?_)
      subst hρ
      exact nx_if false (ρ1 := G (.d x) (.O 0 [LD, .tup F, .tup H]) m n) (by simp only [G, R]; simp [fnM, endF_ret, endF_nx, endF_exc, endF_stuck, fin, okB, wn_un, wn_d, wn_L, wn_M, wn_T, wn_O, wn_X, dat_un, dat_d, dat_L, dat_M, dat_T, dat_O, dat_X, bc, b0, ifS, ret, retN, My.set, sto, stoM, drp, asg, asB, asT, notT, andT, orT, op1, op2, opn, pk, ex, kd, rd, mv, frz, toS, arc, ar0, resAll, res_sl, res_dt, Option.bind_some, ixF, ixS, lenF, intF, strF, cmpF, addF, subF, mulF, modF, fdivF, truD, argsS, argS, sls, backS, rsB, callf, put_nm, put_tp, put_tl, puts_nil, puts_cons, lsc, ls0, lstG, tupG, forS, putC, itD, itsOf, itN, rng1, mut1, mut0, appF, Rs.bind_ok, Rs.bind_exc, Rs.bind_stuck, Rs.ctl_ok, Rs.ctl_exc, Rs.ctl_stuck, Rs.opt_some, Rs.opt_none, Ctl.then_nx, Ctl.then_ret, Ctl.then_exc, Ctl.then_brk, Ctl.then_cnt, Ctl.then_stuck, isN, notN, ifE, fldF, isF, List.lookup, clsOf, orr, callm, mkf, mkB, mk0, stf, slG, ext1, augI, chn, leF, ltF, gtF, geF, enm, enmT, part, noPart, tupleF, listF, eR1, s1, s4']) (fun z => nomatch z) fun _ => nx_b0 ⟨_, _, rfl⟩
    obtain ⟨tu2, fd2, rfl⟩ := hρ
    -- the move
    let G2 (s hd st : S) : En := R s (.L X) (.d LD) tu2 (.d (.lst F)) (.d (.lst CK)) (.d (.lst H)) (.L [.lst F, .lst H]) (.O 0 [LD, .tup F, .tup H]) (.d (.str T)) fd2 hd st la
    obtain ⟨x1, y1, z1, a10, b10, c10, e10, hx1, hy1, hz1, s10⟩ := r_figure s9
    obtain ⟨v11, a11, b11, c11, e11, p11, q11, s11⟩ := r_digit s10 (n := 3) (by decide) (by decide)
    obtain ⟨hh, lh, i11⟩ := ix3 p11 q11 hx1 hy1 hz1
    refine nx_bc (G2 (sd a11 b11 c11) (.d (.int hh)) n) (by simp only [G, G2, R]; simp [fnM, endF_ret, endF_nx, endF_exc, endF_stuck, fin, okB, wn_un, wn_d, wn_L, wn_M, wn_T, wn_O, wn_X, dat_un, dat_d, dat_L, dat_M, dat_T, dat_O, dat_X, bc, b0, ifS, ret, retN, My.set, sto, stoM, drp, asg, asB, asT, notT, andT, orT, op1, op2, opn, pk, ex, kd, rd, mv, frz, toS, arc, ar0, resAll, res_sl, res_dt, Option.bind_some, lenF, intF, strF, cmpF, addF, subF, mulF, modF, fdivF, eqF, neF, deq, truD, argsS, argS, sls, backS, rsB, callf, put_nm, put_tp, put_tl, puts_nil, puts_cons, lsc, ls0, lstG, tupG, forS, putC, itD, itsOf, itN, rng1, mut1, mut0, appF, Rs.bind_ok, Rs.bind_exc, Rs.bind_stuck, Rs.ctl_ok, Rs.ctl_exc, Rs.ctl_stuck, Rs.opt_some, Rs.opt_none, Ctl.then_nx, Ctl.then_ret, Ctl.then_exc, Ctl.then_brk, Ctl.then_cnt, Ctl.then_stuck, e10, e11, i11]) ?_
    obtain ⟨x2, y2, z2, a12, b12, c12, e12, hx2, hy2, hz2, s12⟩ := r_figure s11
    obtain ⟨v13, a13, b13, c13, e13, p13, q13, s13⟩ := r_digit s12 (n := 3) (by decide) (by decide)
    obtain ⟨st, ls, i13⟩ := ix3 p13 q13 hx2 hy2 hz2
    refine nx_bc (G2 (sd a13 b13 c13) (.d (.int hh)) (.d (.int st))) (by simp only [G2, R]; simp [fnM, endF_ret, endF_nx, endF_exc, endF_stuck, fin, okB, wn_un, wn_d, wn_L, wn_M, wn_T, wn_O, wn_X, dat_un, dat_d, dat_L, dat_M, dat_T, dat_O, dat_X, bc, b0, ifS, ret, retN, My.set, sto, stoM, drp, asg, asB, asT, notT, andT, orT, op1, op2, opn, pk, ex, kd, rd, mv, frz, toS, arc, ar0, resAll, res_sl, res_dt, Option.bind_some, lenF, intF, strF, cmpF, addF, subF, mulF, modF, fdivF, eqF, neF, deq, truD, argsS, argS, sls, backS, rsB, callf, put_nm, put_tp, put_tl, puts_nil, puts_cons, lsc, ls0, lstG, tupG, forS, putC, itD, itsOf, itN, rng1, mut1, mut0, appF, Rs.bind_ok, Rs.bind_exc, Rs.bind_stuck, Rs.ctl_ok, Rs.ctl_exc, Rs.ctl_stuck, Rs.opt_some, Rs.opt_none, Ctl.then_nx, Ctl.then_ret, Ctl.then_exc, Ctl.then_brk, Ctl.then_cnt, Ctl.then_stuck, e12, e13, i13]) ?_
    have m1 := r_moverow lh ls
    have m2 := r_readmove lh ls
    have m3 := (s_same (moveT hh st)).1
    have m4 := (mvSame hh st).1
    have lg : ∀ n : Nat, n < 10 ^ 9 → (n : Int).natAbs.log2 < 1920 := fun n hn => by
      rw [Int.natAbs_natCast]
      by_cases h0 : n = 0
      · subst h0; decide
      · exact (Nat.log2_lt h0).mpr (Nat.lt_of_lt_of_le hn (by decide +kernel))
    have zl : ∀ n : Nat, n < 10 ^ 9 → (nT n).length ≤ 9 := fun n hn => by
      have : (nT n).length = (TL.numL n).length := by rw [← nT_l]; rfl
      rw [this]; exact TL.numL_len (by decide) hn
    have f1 : strF [.int hh] = some (.d (.str (nT hh))) := by unfold strF; simp only; rw [if_pos (lg hh lh)]; rfl
    have f2 : strF [.int st] = some (.d (.str (nT st))) := by unfold strF; simp only; rw [if_pos (lg st ls)]; rfl
    have k1 : addF (.str (nT hh)) (.str " ") = some (.d (.str (nT hh ++ " "))) := by
      have bl1 : (" " : Str).length = 1 := by decide +kernel
      have := zl hh lh
      unfold addF; simp only; rw [if_pos (by omega)]
    have k2 : addF (.str (nT hh ++ " ")) (.str (nT st)) = some (.d (.str (moveT hh st))) := by
      have bl1 : (" " : Str).length = 1 := by decide +kernel
      have := zl hh lh
      have := zl st ls
      unfold addF; simp only; rw [if_pos (by rw [app_len]; omega)]; rfl
    generalize moveT hh st = MT at m1 m2 m3 k2
    exact nx_if false (ρ1 := G2 (sd a13 b13 c13) (.d (.int hh)) (.d (.int st))) (by simp only [G2, R]; simp [fnM, endF_ret, endF_nx, endF_exc, endF_stuck, fin, okB, wn_un, wn_d, wn_L, wn_M, wn_T, wn_O, wn_X, dat_un, dat_d, dat_L, dat_M, dat_T, dat_O, dat_X, bc, b0, ifS, ret, retN, My.set, sto, stoM, drp, asg, asB, asT, notT, andT, orT, op1, op2, opn, pk, ex, kd, rd, mv, frz, toS, arc, ar0, resAll, res_sl, res_dt, Option.bind_some, lenF, intF, cmpF, subF, mulF, modF, fdivF, truD, argsS, argS, sls, backS, rsB, callf, put_nm, put_tp, put_tl, puts_nil, puts_cons, lsc, ls0, lstG, tupG, forS, putC, itD, itsOf, itN, rng1, mut1, mut0, appF, Rs.bind_ok, Rs.bind_exc, Rs.bind_stuck, Rs.ctl_ok, Rs.ctl_exc, Rs.ctl_stuck, Rs.opt_some, Rs.opt_none, Ctl.then_nx, Ctl.then_ret, Ctl.then_exc, Ctl.then_brk, Ctl.then_cnt, Ctl.then_stuck, m1, m2, m3, m4, f1, f2, k1, k2]) (fun z => nomatch z) fun _ => nx_b0 ⟨_, _, _, _, _, _, _, _, _, _, _, _, _, _, _, rfl⟩
  exact ⟨ss', e⟩
set_option maxHeartbeats 0
theorem facts {P : Program} {w : World} {K : PySem.W.Frag} {h : Heap} {mg : Str → Option Value} {f : Addr} (X : K.In h) (G : h.Ns mainGlobals mg) (hfa : mg ("law" : Str) = some (.ref f)) (c : He.SaysX fa fn [] [] exK w h K) :
    ∃ fd : FuncData, (∀ (s : Shared) (v : Value), BindsTo s fd ⟨[v], []⟩ [("_law_script", v)]) ∧ ∀ base : Heap, K.In base → base.Ns mainGlobals mg → FnOk P w K mg base CX0 20 f fd ["_law_script"] (spLaw K) := by
  have T : Txt K mg := ⟨w, h, X, G, c⟩
  obtain ⟨fd, F⟩ := T.d_law
  have e := hfa.symm.trans T.g_law
  cases e
  have b := FunD.bindsA (ps := ["_law_script"]) F fun _ _ _ _ _ _ us hl => match us, hl with | [_], _ => rfl
  exact ⟨fd, fun s v => b s [v] rfl, fun base _ _ => ok_law0 T F r_law⟩
end My
open PySem PySem.W PySem.Calls PyProof.Rows
set_option maxRecDepth 100000 in
set_option maxHeartbeats 0 in
theorem PySem.Challenge.cw_manyboard_k82_questions_as_rows_holds : PySem.Challenge.rw_manyboard_k82_questions_as_rows.Holds := by
  w_on; o_law
  refine HandSHeadRun.head_any (r := OpenLaw.row PySem.Challenge.rw_manyboard_k82_questions_as_rows) (q := view (OpenLaw.row PySem.Challenge.rw_manyboard_k82_questions_as_rows).prog [34]) (H := My.hookH) (ob := My.obH) (M := 20000) (loose := My.namesH) (d := HandSHeadRun.topDef (OpenLaw.row PySem.Challenge.rw_manyboard_k82_questions_as_rows).prog 34) (kwd := []) My.obH_eq
    (by kernel_rfl) (fun s => by kernel_rfl) My.runH (by kernel_rfl) (by kernel_rfl) (by kernel_rfl) (by rfl) (by first | assumption | decide +kernel) (by decide +kernel) ⟨rfl, rfl, rfl, rfl, rfl, by decide +kernel⟩ ?hw ?hc
  case hw => w_witness2
  case hc =>
    refine L2.walk_ofE (l := PySem.Challenge.rw_manyboard_k82_questions_as_rows) (n := 63) (k := 20) (x := "_law_script") (CX := L2.CX0) rfl (by decide) (by kernel_rfl) ⟨rfl, by decide, by decide⟩ ?F (fun _ _ _ _ z => z)
    intro w mg fa h Y G hmg0
    obtain ⟨K, KX, c⟩ := Y
    have hmg : mg ("law" : PySem.Str) = some (.ref fa) := by
      have e : (HandSHeadRun.topDef (OpenLaw.row PySem.Challenge.rw_manyboard_k82_questions_as_rows).prog 34).name = ("law" : PySem.Str) := by kernel_rfl
      rw [← e]
      exact hmg0
    obtain ⟨fd, hb, hF⟩ := My.facts (P := (PySem.Challenge.rw_manyboard_k82_questions_as_rows).prog) (w := w) KX G hmg c
    exact ⟨K, fd, My.spLaw K, KX, hb, fun H a ns hl _ hS => ⟨a, ns, rfl, hS, hl, fun _ => rfl⟩, hF⟩
