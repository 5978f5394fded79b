import PyProof.Rows.All
import Wide.All
import OpenK.AllK
import Wide.FinOn
import KE.KStateDown
import HandS.ForMost
import HandS.ForExc
import HandS.ExcInit
import HandS.ExcField
import HandS.ExcIs
import HandS.IsInst
import HandS.Codes
import HandS.Star
import HandS.Steps
import HandS.Evl
import HandS.Head0
import HandS.Head1
import HandS.Head2
import HandS.HeadEnd
import HandS.HeadHook1
import HandS.HeadHook2
import HandS.HeadHook3
import HandS.HeadHook4
import KE.KExcIs
import HandS.SortKw
import HandS.OwnEq
import PySem.Challenge.RW_manyboard_k01_names_at_each_door
set_option Elab.async false
set_option linter.all false
set_option maxRecDepth 100000
set_option maxHeartbeats 4000000
namespace My
open PySem PySem.Spec PyProof.Rows L2
/-! what must be so of a call's text; all of it holds by evaluation -/
abbrev StarOk (X : Cx) (e : Expr) (es : List Expr) : Prop := starEach (e :: es) X.env = (false, eval e X.env) :: starEach es X.env
abbrev NoStars (X : Cx) (pos : Pos) (es : List Expr) : Prop := (backTo pos (starEach es X.env)).any (·.1) = false
abbrev NotDbg (x : Str) : Prop := (x == ("__debug__" : Str)) = false
abbrev CallsSo (X : Cx) (o : Expr) (m : Str) (args : List Expr) (apos pos : Pos) (pl : Sem Bool) : Prop :=
  eval (.Call (.Attribute o m apos) args [] pos) X.env = eval o X.env >>= fun v => standAt apos.atName >>= fun _ => holding [v] (getMethod v m pl) >>= fun r => callWith pos r.1 r.2 (backTo pos (starEach args X.env)) (backToKw pos (keywordEach [] X.env))
section calls
variable {X : Cx} {Z : CXT} {k j : Nat} {C : Addr} {x m : Str} {sp : Sp} {E : L2.St → XK} {p pos apos : Pos} {e o : Expr} {es : List Expr} {ta : TE} {t : TA}
/-- a def of the module by its name -/
structure Cal (P : Program) (w : World) (K : PySem.W.Frag) (mg : Str → Option Value) (base : Heap) (CX : CXT) (k : Nat) (x : Str) (sp : Sp) : Prop where
  ex : ∃ (f : Addr) (fd : FuncData) (ps : List Str), FnOk P w K mg base CX k f fd ps sp ∧ mg x = some (.ref f) ∧ PySem.W.keepIn K (.ref f) = true ∧ Binds K fd ps []
/-- a method -/
structure Met (P : Program) (w : World) (K : PySem.W.Frag) (mg : Str → Option Value) (base : Heap) (CX : CXT) (k : Nat) (C : Addr) (m : Str) (sp : Sp) : Prop where
  ex : ∃ (f : Addr) (fd : FuncData) (ps : List Str), L2.Cls K C ∧ Meth K C m f ∧ FnOk P w K mg base CX k f fd ps sp ∧ Binds K fd ps []
/-- an own class made by its name -/
structure Mak (P : Program) (w : World) (K : PySem.W.Frag) (mg : Str → Option Value) (base : Heap) (CX : CXT) (k : Nat) (x : Str) (C : Addr) (sp : Sp) : Prop where
  ex : ∃ (f : Addr) (fd : FuncData) (ps : List Str), Mk K C f ∧ FnOk P w K mg base CX k f fd ps sp ∧ mg x = some (.ref C) ∧ Binds K fd ps []
/-- nothing leaves -/
theorem at0 {X : Cx} : ∀ σ, PassesAt CX0 X σ ((fun _ => E0) σ) := fun _ _ _ _ _ _ _ h => h.elim
theorem atL {X : Cx} : ∀ σ, PassesAt (L2.CX X.prog X.w) X σ ((fun _ => E0) σ) := fun σ => (fun pins H s e s' I h => passL pins σ H s e s' I h)
/-- what leaves goes out at the slots -/
theorem atW {X : Cx} {W : WX} (tk : Takes X W) : ∀ σ, PassesAt (L2.CX X.prog X.w) X σ (WE W σ) := fun σ => passAt tk σ
theorem pe_c (c : Cal X.prog X.w X.K X.mg X.base Z k x sp) (hr : Room j X.A) (hk : k ≤ j) (hx : ∀ σ, PassesAt Z X σ (E σ)) (hg : Gl X x) (ha : PA X (e :: es) t)
    (hdb : NotDbg x := by decide) (he : StarOk X e es := by rfl) (hpl : NoStars X pos es := by rfl) : PE X (.Call (.Name x p) (e :: es) [] pos) (tCallS sp E t) := by
  obtain ⟨f, fd, ps, F, hm, kp, b⟩ := c.ex
  exact pe_callS F (hr.mono hk) hg hm kp b hx ha hdb he hpl
def tMethS (C : Addr) (m : Str) (sp : Sp) (E : L2.St → XK) (ta : TE) (t : TA) : TE := fun σ H Q => ta σ H fun x H1 => ∃ a dx fs, x = .ref a ∧ H1 a = some (.ins C dx fs) ∧ fs.lookup m = none ∧ t σ H1 fun vs H2 => sp (x :: vs) H2 Q (E σ)
theorem pe_m {pl : Sem Bool} (c : Met X.prog X.w X.K X.mg X.base Z k C m sp) (hr : Room j X.A) (hk : k ≤ j) (hx : ∀ σ, PassesAt Z X σ (E σ)) (he : PE X o ta) (ha : PA X (e :: es) t)
    (hst : StarOk X e es := by rfl) (hpl : NoStars X pos es := by rfl)
    (ht : CallsSo X o m (e :: es) apos pos pl := by rfl) : PE X (.Call (.Attribute o m apos) (e :: es) [] pos) (tMethS C m sp E ta t) := by
  obtain ⟨f, fd, ps, cl, hm, F, b⟩ := c.ex
  refine ⟨fun pins s σ H Q I h => PySem.W.methodCall_KW (pl := pl) (thn (he.run pins s σ H _ I h) fun u s1 hh => ?_) ht⟩
  obtain ⟨y, H1, I1, ry, a, dx, fs, ey, ea, l, q⟩ := hh
  subst ey; obtain rfl : u = Value.ref a := ry
  refine getmeth_ok I1 ea cl hm l (PySem.W.callWith_K (first := [.ref a]) (h₀ := X.base) I1.ok.mod.kin hm.kp (thn (ha.run pos pins s1 σ H1 _ I1 q) fun us s2 hh2 => ?_) hst hpl)
  obtain ⟨vs, H2, I2, r, q2⟩ := hh2
  exact ⟨I2.kIn, run_fnS (us := .ref a :: us) (vs := .ref a :: vs) F (hr.mono hk) b (hx σ) I2 (.cons rfl r) q2⟩
theorem pe_m0 {pl : Sem Bool} (c : Met X.prog X.w X.K X.mg X.base Z k C m sp) (hr : Room j X.A) (hk : k ≤ j) (hx : ∀ σ, PassesAt Z X σ (E σ)) (he : PE X o ta)
    (ht : CallsSo X o m [] apos pos pl := by rfl) : PE X (.Call (.Attribute o m apos) [] [] pos) (tMethS C m sp E ta tNil) := by
  obtain ⟨f, fd, ps, cl, hm, F, b⟩ := c.ex
  refine ⟨fun pins s σ H Q I h => PySem.W.methodCall_KW (pl := pl) (thn (he.run pins s σ H _ I h) fun u s1 hh => ?_) ht⟩
  obtain ⟨y, H1, I1, ry, a, dx, fs, ey, ea, l, q⟩ := hh
  subst ey; obtain rfl : u = Value.ref a := ry
  refine getmeth_ok I1 ea cl hm l ?_
  exact PySem.W.callWith_K0 (first := [.ref a]) I1.kIn hm.kp (run_fnS (us := [.ref a]) (vs := [.ref a]) F (hr.mono hk) b (hx σ) I1 (.cons rfl .nil) q)
def tMakeS (C : Addr) (sp : Sp) (E : L2.St → XK) (t : TA) : TE := fun σ H Q => t σ H fun vs H1 => ∀ x dx, H1 x = none → H1 dx = none → dx ≠ x → sp (.ref x :: vs) (upd (upd H1 dx (.own x)) x (.ins C dx [])) (fun v H2 => v = .non ∧ Q (.ref x) H2) (E σ)
theorem pe_mk (c : Mak X.prog X.w X.K X.mg X.base Z k x C sp) (hr : Room j X.A) (hk : k + 1 ≤ j) (hx : ∀ σ, PassesAt Z X σ (E σ)) (hg : Gl X x) (ha : PA X (e :: es) t)
    (hdb : NotDbg x := by decide) (he : StarOk X e es := by rfl) (hpl : NoStars X pos es := by rfl) :
    PE X (.Call (.Name x p) (e :: es) [] pos) (tMakeS C sp E t) := by
  obtain ⟨f, fd, ps, M, F, hm, b⟩ := c.ex
  refine ⟨fun pins s σ H Q I h => wpAny_Call_Name_kw (ld_glob I hg hm (PySem.W.callWith_K (h₀ := X.base) I.ok.mod.kin M.kp (thn (ha.run pos pins s σ H _ I h) fun us s1 hh => ?_) he hpl) hdb)⟩
  obtain ⟨vs, H1, I1, r, q⟩ := hh
  refine ⟨I1.kIn, ?_⟩
  have hq := q (s1.heap.objs.size + 1) s1.heap.objs.size (I1.hok.fresh (Nat.le_succ _)) (I1.hok.fresh (Nat.le_refl _)) (Nat.ne_of_lt (Nat.lt_succ_self _))
  have I2 := Inv.made (C := C) I1
  have r2 : Vals (V.ref (s1.heap.objs.size + 1) :: vs) (Value.ref (s1.heap.objs.size + 1) :: us) := .cons rfl r
  have hl : (Value.ref (s1.heap.objs.size + 1) :: us ++ []).length = ps.length := by
    rw [List.append_nil, ← r2.length, F.len _ _ _ _ hq]
  have b2 := b _ (Value.ref (s1.heap.objs.size + 1) :: us) I2.kIn hl
  rw [List.append_nil] at b2
  have hrk : Room (k + 1) X.A := hr.mono hk
  refine wpAny_call (make_map (f := f) I1.kIn M.makes M.init (beq_iff_eq.mp M.fn) (codeAny_mono (F.run _ X.stack _ _ ⟨Value.ref (s1.heap.objs.size + 1) :: us, []⟩ _ _ _ (E σ) (hrk.make C us []) (I2.env0.make C us []) b2 r2 hq) fun z s' hz => ?_))
  cases z with
  | error e => exact hx σ pins _ _ e s' I2 hz
  | ok fl =>
    cases fl with
    | ret u => obtain ⟨v, H', I3, rv, ev, q3⟩ := I2.after hz; subst ev; exact ⟨rv, ⟨V.ref (s1.heap.objs.size + 1), H', I3, rfl, q3⟩⟩
    | next => exact hz.elim
    | brk => exact hz.elim
    | cont => exact hz.elim
end calls
/-! ### one rule or another -/
section
variable {X : Cx} {e : Expr} {t t' : TE}
theorem pe_orr (h : PE X e t) (h' : PE X e t') : PE X e (fun σ H Q => t σ H Q ∨ t' σ H Q) := ⟨fun pins s σ H Q I hw => hw.elim (fun z => h.run pins s σ H Q I z) fun z => h'.run pins s σ H Q I z⟩
theorem pe_never : PE X e (fun _ _ _ => False) := ⟨fun _ _ _ _ _ _ z => z.elim⟩
theorem ps_neverS {st : Stmt} : PS X st (fun _ _ _ => False) := ⟨fun _ _ _ _ _ _ z => z.elim⟩
theorem pi_orr {tg it : Expr} {w w' : TI} (h : PI X tg it w) (h' : PI X tg it w') : PI X tg it (fun σ H R => w σ H R ∨ w' σ H R) := ⟨fun pins s σ H R I hw => hw.elim (fun z => h.run pins s σ H R I z) fun z => h'.run pins s σ H R I z⟩
def iA (K : PySem.W.Frag) (te : TE) : TI := fun σ H R => iList K te σ H R ∨ iTup K te σ H R ∨ iStr te σ H R
theorem pi_A {tg l : Expr} {te : TE} (h : PE X l te) : PI X tg l (iA X.K te) := pi_orr (pi_list h) (pi_orr (pi_tup h) (pi_str h))
theorem pi_never {tg it : Expr} : PI X tg it (fun _ _ _ => False) := ⟨fun _ _ _ _ _ _ z => z.elim⟩
end
section
variable {X : Cx}
/-- two lists put together, tracked, locked or written -/
def rCatR (K : PySem.W.Frag) : R2 := fun x y H Q => ∃ l b xs zs, x = .ref l ∧ y = .ref b ∧ SqL K H l xs ∧ SqL K H b zs ∧ xs.length + zs.length ≤ sizeLine ∧ ∀ p, H p = none → Q (.ref p) (upd H p (.lst (xs ++ zs)))
theorem op_catR : OpR X (binaryOp .Add) (rCatR X.K) := by
  rintro pins s σ H x y v u Q I rx ry ⟨l, b, xs, zs, rfl, rfl, hl, hb, hz, q⟩
  cases rx; cases ry
  obtain ⟨it1, r1, p1, z1⟩ := I.list hl
  obtain ⟨it2, r2, p2, z2⟩ := I.list hb
  have l1 := r1.length
  have l2 := r2.length
  obtain ⟨⟨c1, d1, t1, s1⟩, g1, rfl, n1, rfl⟩ := p1.isList
  obtain ⟨⟨c2, d2, t2, s2⟩, g2, rfl, n2, rfl⟩ := p2.isList
  refine concat_meets ⟨_, g1, rfl⟩ ⟨_, g2, rfl⟩ noFill_list_add seq_list_add PySem.F.slot_list_add PySem.F.entry_list_add (PySem.F.args_list_add_2 _ _) (list_addW l b it1.toArray it2.toArray n1 n2 d1 d2 s1 s2 (by simp only [List.size_toArray]; omega)) ⟨g1, g2, ?_⟩
  rw [show it1.toArray ++ it2.toArray = (it1 ++ it2).toArray by simp]
  exact ⟨.ref _, _, I.lnew (t' := s.toks) (r1.append r2) (by simp only [List.length_append]; omega), rfl, q _ I.fresh⟩
def rAddA (K : PySem.W.Frag) : R2 := fun x y H Q => (rI0 fun i j => V.int (i + j)) x y H Q ∨ (∃ i j, x = .str i ∧ y = .str j ∧ i.length + j.length ≤ sizeLine ∧ Q (.str (i ++ j)) H) ∨ rCatR K x y H Q ∨ rCatT K x y H Q
theorem op_addA : OpR X (binaryOp .Add) (rAddA X.K) := op_add.or (op_add_str.or (op_catR.or op_catT))
def rEqA (K : PySem.W.Frag) : R2 := fun x y H Q => rEq x y H Q ∨ rEqD K x y H Q
theorem op_eqA (hu : X.A.units + 64 < cLine) : OpR X (compareOp .Eq) (rEqA X.K) := op_eq.or (op_eqD hu)
def rNeA (K : PySem.W.Frag) : R2 := fun x y H Q => rNe x y H Q ∨ rNeD K x y H Q
theorem op_neA (hu : X.A.units + 64 < cLine) : OpR X (compareOp .NotEq) (rNeA X.K) := op_ne.or (op_neD hu)
def rInA (K : PySem.W.Frag) : R2 := fun x y H Q => rInS x y H Q ∨ rIn K false x y H Q
theorem op_inA : OpR X (compareOp .In) (rInA X.K) := op_inS.or op_in_seq
def rNotInA (K : PySem.W.Frag) : R2 := fun x y H Q => rNotInS x y H Q ∨ rIn K true x y H Q
theorem op_notInA : OpR X (compareOp .NotIn) (rNotInA X.K) := op_notInS.or op_notIn_seq
def rSlA (K : PySem.W.Frag) : V → Option Int → Option Int → Hp → VK → Prop := fun x lo hi H Q => rSlL K x lo hi H Q ∨ rSlT K x lo hi H Q ∨ C8.rSlX x lo hi H Q
theorem sl_A : SlR X (rSlA X.K) := sl_list.or (sl_tup.or C8.sl_txt)
def gTA (K : PySem.W.Frag) (n : Nat) (t : TGs) : TG := fun v σ H Q => gTup K n t v σ H Q ∨ gLst K n t v σ H Q
theorem pg_tupA {pos : Pos} {es : List Expr} {k : Nat} {t : TGs} {n : Nat} (hc : X.calm = true) (h : PGs X es t) (hn : (assignEach es X.env).length = n := by rfl) (hst : (assignEach es X.env).findIdx? (·.1) = none := by rfl) : PG X (.Tuple es k pos) (gTA X.K n t) :=
  ⟨fun pins s σ H v u Q I r hw => hw.elim (fun z => (pg_tup hc h hn hst).run pins s σ H v u Q I r z) fun z => (pg_lst hc h hn hst).run pins s σ H v u Q I r z⟩
end
/-! ### own exceptions: the class by one Bool, made, read, asked of -/
def eqB {α : Type} [DecidableEq α] (a b : α) : Bool := decide (a = b)
def shapeX (K : PySem.W.Frag) (C : Addr) : Bool :=
  match K.lookup C with
  | some ⟨.type "type", _, .cls cd, sl⟩ =>
    match cd.mro, sl.toList with
    | .ref D :: rest, [_, _, _, _, some (.builtin b), _] => eqB D C && eqB b "ValueError.__new__" && eqB cd.hasDel false && cd.hasDict && PySem.HandSPX.refsVE rest
    | _, _ => false
  | _ => false
theorem shapeX_ok {K : PySem.W.Frag} {C : Addr} (h : shapeX K C = true) : ∃ nm q N bs bm sn sub ab col dd k0 k1 k2 k3 k5,
    K.lookup C = some (excClassObj nm q C N bs bm true sn sub ab col dd k0 k1 k2 k3 k5 "ValueError.__new__") ∧ PySem.HandSPX.refsVE bm = true := by
  unfold shapeX at h
  split at h
  · rename_i dd cd sl ho
    split at h
    · rename_i D bm k0 k1 k2 k3 b k5 hm hs
      simp only [Bool.and_eq_true, eqB, decide_eq_true_eq] at h
      obtain ⟨⟨⟨⟨rfl, rfl⟩, hdel⟩, hd⟩, hr⟩ := h
      obtain ⟨nm, bs, mro, ns, qn, hdct, sn, sub, ab, col, del⟩ := cd
      dsimp only at hm hdel hd
      subst hm hdel hd
      obtain ⟨l⟩ := sl
      dsimp only at hs
      subst hs
      exact ⟨nm, qn, ns, bs, bm, sn, sub, ab, col, dd, k0, k1, k2, k3, k5, ho, hr⟩
    · cases h
  · cases h
/-- all that is asked of an own exception's class -/
def excB (K : PySem.W.Frag) (C : Addr) : Bool := shapeX K C && (eqB (PySem.W.findIn K (.ref C) "__setattr__") (some (some (.builtin "object.__setattr__"))) && (eqB (PySem.W.subIn K (.ref C) (.type "BaseException")) (some true) && (eqB (PySem.W.typeIn K (.ref C)) (some (.type "type")) &&
  (PySem.W.keepIn K (.ref C) && (xfB K C && (eqB (PySem.W.findIn K (.ref C) "__class__") (some (some (.builtin "object.__class__"))) && (eqB (PySem.W.specialIn K (.builtin "object.__class__") "__get__") (some (some (.builtin "getset_descriptor.__get__"))) &&
  (eqB (PySem.W.takesIn K (.builtin "object.__class__")) (some true) && eqB (PySem.W.mroIn K C (.type "object")) (some true)))))))))
structure ExC (K : PySem.W.Frag) (C : Addr) : Prop where
  o : OexC K C
  x : XfC K C
  c : ExcC K C
theorem bA {a b : Bool} (h : (a && b) = true) : a = true ∧ b = true := Bool.and_eq_true_iff.mp h
theorem eqB_ok {α : Type} [DecidableEq α] {a b : α} (h : eqB a b = true) : a = b := of_decide_eq_true h
theorem excB_ok {K : PySem.W.Frag} {C : Addr} (h : excB K C = true) : ExC K C := by
  obtain ⟨a1, h⟩ := bA h
  obtain ⟨a2, h⟩ := bA h
  obtain ⟨a3, h⟩ := bA h
  obtain ⟨a4, h⟩ := bA h
  obtain ⟨a5, h⟩ := bA h
  obtain ⟨a6, h⟩ := bA h
  obtain ⟨a7, h⟩ := bA h
  obtain ⟨a8, h⟩ := bA h
  obtain ⟨a9, a10⟩ := bA h
  have x := xfB_ok a6
  exact ⟨⟨shapeX_ok a1, eqB_ok a2, eqB_ok a3, eqB_ok a4, a5⟩, x, ⟨x.ga, x.gg, eqB_ok a3, x.hdC, eqB_ok a7, eqB_ok a8, eqB_ok a9, eqB_ok a10⟩⟩
/-- isinstance of a caught exception that has its own dict -/
def rIsX (K : PySem.W.Frag) (a : Addr) (cls : Value) (d : Option Addr) : List V → Hp → VK → Prop := fun xs H Q => ∃ (D dd : Addr) (fs : List (Str × V)) (c : V) (cv : Value) (b : Bool), cls = .ref D ∧ d = some dd ∧ H dd = some (.xd fs) ∧ ExC K D ∧
  xs = [.ref a, c] ∧ (∀ u, RelV c u → u = cv) ∧ PySem.W.kitOne K (.ref D) cv = some b ∧ Q (.bl b) H
theorem call_isX {X : Cx} {a : Addr} {cls : Value} {d : Option Addr} {oe : Obj} {pn : List (Addr × Obj)} (hz : Zc cls d oe) (hf : ∃ vs, oe.data = .fields vs) : CallR (X.suite a ((a, oe) :: pn)) (.builtin "isinstance") (rIsX X.K a cls d) := by
  rintro pins s σ H xs us Q I r ⟨D, dd, fs, c, cv, b, rfl, rfl, hd, T, rfl, hcv, e, q⟩
  obtain ⟨u, v, rfl, ru, rv⟩ := vals2 r
  cases ru
  obtain rfl := hcv _ rv
  obtain ⟨hat, _⟩ := I.pin (a, oe) (List.mem_append.mpr (.inl List.mem_cons_self))
  obtain ⟨vs, hvs⟩ := hf
  have hx : ObjOk X.prog X.w H s.heap dd (.xd fs) := I.hok dd _ hd
  obtain ⟨mA, hns, _⟩ := hx
  obtain ⟨od, ho, _⟩ := lookIn_ns hns
  have J : PySem.W.InstAt s.heap a oe D (some od) := ⟨hat, hz.1, by unfold PySem.W.notCls; rw [hvs], by rw [hz.2]; exact ho⟩
  have hcl : (PySem.W.clsIn X.K D).isSome = true := by
    obtain ⟨cd, hc, _⟩ := PySem.W.any_some T.c.hd
    rw [hc]; rfl
  exact PySem.W.kia_one (PySem.W.kitx_exc hcl T.c.hg T.c.hk T.c.hs T.c.ha T.c.hn T.c.ht T.c.hm) I.kIn J e (fun z => nomatch z) fun tk => ⟨.bl b, H, I.kept (t' := tk) fun _ _ z => z, rfl, q⟩
/-- a field of a caught exception -/
def tXA (K : PySem.W.Frag) (a : Addr) (cls : Value) (d : Option Addr) (f : Str) (te : TE) : TE := fun σ H Q => ∃ C, ExC K C ∧ PySem.W.findIn K (.ref C) f = some none ∧ tXf a cls d C f te σ H Q
theorem pe_xA {X : Cx} {a : Addr} {oe : Obj} {cls : Value} {d : Option Addr} {pn : List (Addr × Obj)} {e : Expr} {te : TE} {pos : Pos} {n : Str} (hz : Zc cls d oe) (hf : ∃ vs, oe.data = .fields vs) (he : PE (X.suite a ((a, oe) :: pn)) e te)
    (hb : attributeBase e n X.env (eval e X.env) = eval e X.env := by rfl) : PE (X.suite a ((a, oe) :: pn)) (.Attribute e n pos) (tXA X.K a cls d n te) :=
  ⟨fun pins s σ H Q I ⟨_, T, hn, h⟩ => (pe_xf T.x hn hz hf he hb).run pins s σ H Q I h⟩
/-! ### made: the fields that the class's own __init__ gives -/
def spX (C : Addr) (flds : List V → Option (List (Str × V))) : Sp := fun vs H Q _ => ∃ (a : Addr) (ws : List V) (fs : List (Str × V)), vs = .ref a :: ws ∧ flds ws = some fs ∧ H a = some (exo a C none) ∧
  ∀ (d : Addr) (H' : Hp), H d = none → d ≠ a → H' d = some (exd d fs) → H' a = some (exo a C (some d)) → (∀ b, b ≠ a → b ≠ d → H' b = H b) → Q .non H'
structure Exk (P : Program) (w : World) (K : PySem.W.Frag) (mg : Str → Option Value) (base : Heap) (k : Nat) (x : Str) (C : Addr) (flds : List V → Option (List (Str × V))) : Prop where
  ex : ∃ (fI : Addr) (fd : FuncData) (ps : List Str), ExC K C ∧ PySem.W.findIn K (.ref C) "__init__" = some (some (.ref fI)) ∧ PySem.W.typeIn K (.ref fI) = some (.type "function") ∧
    FnOk P w K mg base CX0 k fI fd ps (spX C flds) ∧ mg x = some (.ref C) ∧ Binds K fd ps []
/-- behind the arguments: the fields, and what is wished of any heap with the new error's dict -/
theorem mkA_in {C : Addr} {flds : List V → Option (List (Str × V))} {vs : List V} {H1 : Hp} {Q : XK} {fs : List (Str × V)} (hf : flds vs = some fs) (hl : vs.length ≤ 1000)
    (k : ∀ (d : Addr) (H2 : Hp), H1 d = none → Same H1 H2 → H2 d = some (.xd fs) → Q (.ref C) (some d) H2) :
    vs.length ≤ 1000 ∧ ∀ a, H1 a = none → spX C flds (.ref a :: (vs ++ [])) (upd H1 a (exo a C none)) (fun v H2 => v = .non ∧ ∃ (d : Addr) (fs : List (Str × V)), H2 a = some (exo a C (some d)) ∧ H2 d = some (exd d fs) ∧ H1 d = none ∧ Q (.ref C) (some d) (upd (del H2 a) d (.xd fs))) (fun _ _ _ => False) := by
  refine ⟨hl, fun a ha => ⟨a, vs, fs, by rw [List.append_nil], hf, upd_same, fun d H' hd hne e1 e2 kp => ?_⟩⟩
  rw [upd_ne hne] at hd
  refine ⟨rfl, d, fs, e2, e1, hd, k d _ hd (fun b o hb => ?_) upd_same⟩
  have b1 : b ≠ d := ne_of_none hb hd
  have b2 : b ≠ a := ne_of_none hb ha
  rw [upd_ne b1, del_ne b2, kp b b2 b1, upd_ne b2]
  exact hb
theorem pass0F {X : Cx} : Passes CX0 X (fun _ _ _ => False) := fun _ _ _ _ _ _ _ h => h.elim
theorem pmk_A {X : Cx} {k j : Nat} {x : Str} {C : Addr} {flds : List V → Option (List (Str × V))} {e : Expr} {es : List Expr} {ta : TA} {p pos : Pos} (c : Exk X.prog X.w X.K X.mg X.base k x C flds) (hr : Room j X.A) (hk : k + 1 ≤ j) (hg : Gl X x) (ha : PA X (e :: es) ta)
    (hdb : NotDbg x := by decide) (he : StarOk X e es := by rfl) (hpl : NoStars X pos es := by rfl) :
    PMk X (.Call (.Name x p) (e :: es) [] pos) (tMkO C (spX C flds) [] ta) := by
  obtain ⟨fI, fd, ps, T, i, ti, F, hm, b⟩ := c.ex
  exact pmk_oex T.o i ti F (hr.mono hk) b .nil pass0F hg hm ha hdb he hpl
/-! ### max(ints, default = an int) -/
section
variable {w : World} {prog : Program} {A : Around} {I : Addr} {fp wr : List Addr} {R : Result → Shared → Prop} {n : Nat} {P : Nat → Value → Prop} {St : Nat → Heap → Prop}
theorem loopN : (toString "max" ++ toString ".loop" : String) = "max.loop" := by decide
/-- the loop of max, whatever keywords it carries: an item is held -/
theorem max_on (kw : List (Str × Value)) (Wk : Walks prog w A.in1 I fp wr n P St) (bb : Nat → Nat → Bool) (cm : CmpOf prog w A.in1 .Gt P bb) (L : Addr) (nf : L ∉ fp) :
    ∀ (m j : Nat) (s : Shared) (u : Value) (c : Nat), m + (j + 1) = n → St (j + 1) s.heap → P (argBest bb j) u → s.heap.get? L = some ⟨.type "list", none, .seq #[u, u] c, #[]⟩ →
    (∀ v g tk, P (argBest bb (n - 1)) v → (∀ b o, b ∉ wr → b ≠ L → s.heap.get? b = some o → g.get? b = some o) → R (.ok (.ret v)) { s with heap := g, toks := tk }) →
    codeAny (model prog w) A (.builtin "max.loop" ⟨[.ref I, .none, .ref L], kw⟩) R s := by
  have nw : L ∉ wr := fun z => nf (Wk.sub _ z)
  intro m
  induction m with
  | zero =>
    intro j s u c e st pu hL k
    have e' : j + 1 = n := by omega
    refine codeAny_builtin F.entry_max_loop (by
      rw [Around.under_plainId F.plain_max_loop _]
      show wpAny _ A.in1 (seqItems? (.ref L) >>= _) _ _ s
      refine wpAny_bind (wpAny_seqItems hL rfl ?_); show wpAny _ A.in1 (tryCatch (pyNext (.ref I)) _ >>= _) _ _ s
      refine wpAny_bind (wpAny_tryCatch (Wk.done s _ _ (e' ▸ st) fun g tk kp => ?_))
      have hL' := kp L _ nw hL
      show wpAny _ A.in1 (updateSeq L (fun _ => #[]) >>= _) _ _ _
      exact wpAny_bind (wpAny_updateSeq hL' rfl (wpAny_bind (wpAny_letGo (wpAny_pure (k u _ tk (by rw [← e']; exact pu) fun b o h1 h2 z => (Heap.get?_update_other _ _ (Ne.symm h2)).trans (kp b o h1 z)))))))
  | succ m ih =>
    intro j s u c e st pu hL k
    have lt : j + 1 < n := by omega
    refine codeAny_builtin F.entry_max_loop (by
      rw [Around.under_plainId F.plain_max_loop _]
      show wpAny _ A.in1 (seqItems? (.ref L) >>= _) _ _ s
      refine wpAny_bind (wpAny_seqItems hL rfl ?_); show wpAny _ A.in1 (tryCatch (pyNext (.ref I)) _ >>= _) _ _ s
      refine wpAny_bind (wpAny_tryCatch (Wk.item (j + 1) s _ _ lt st fun v g tk pv st' kp => ?_))
      have hL' := kp L _ nw hL
      show wpAny _ A.in1 (tryCatch (holding [v, v] (richCompare .Gt v u >>= _)) _ >>= _) _ _ _
      refine wpAny_bind (wpAny_tryCatch (wpAny_holding (wpAny_bind (cm (j + 1) (argBest bb j) v u _ _ _ pv pu (wpAny_bind (wpAny_holding (wpAny_truthy_bool (wpAny_bind (wpAny_letGo (wpAny_pure ?_))))))))))
      cases hb : bb (j + 1) (argBest bb j) with
      | true =>
        simp only [if_true]
        refine wpAny_bind (wpAny_updateSeq hL' rfl (wpAny_bind (wpAny_letGo ?_)))
        rw [loopN]
        refine wpAny_pure ⟨plainId_quiet F.plain_max_loop _, ih (j + 1) _ v _ (by omega) (Wk.frame _ _ _ st' fun b hbf o z => ?_) (by simp only [argBest, hb, if_true]; exact pv) (Heap.get?_update_self _ hL' rfl) fun v' g' tk' p' kp' => ?_⟩
        · exact (Heap.get?_update_other _ _ (fun y : L = b => nf (y ▸ hbf))).trans z
        · exact k v' g' tk' p' fun b o h1 h2 z => kp' b o h1 h2 ((Heap.get?_update_other _ _ (Ne.symm h2)).trans (kp b o h1 z))
      | false =>
        simp only [Bool.false_eq_true, if_false]
        refine wpAny_bind (wpAny_letGo ?_)
        rw [loopN]
        exact wpAny_pure ⟨plainId_quiet F.plain_max_loop _, ih (j + 1) _ u c (by omega) st' (by simp only [argBest, hb, Bool.false_eq_true, if_false]; exact pu) hL' fun v' g' tk' p' kp' => k v' g' tk' p' fun b o h1 h2 z => kp' b o h1 h2 (kp b o h1 z)⟩)
/-- .. from its first turn, with a default -/
theorem max_at (d : Value) (Wk : Walks prog w A.in1 I fp wr n P St) (bb : Nat → Nat → Bool) (cm : CmpOf prog w A.in1 .Gt P bb) (L : Addr) (nf : L ∉ fp) {s : Shared} {c : Nat} (st : St 0 s.heap) (hL : s.heap.get? L = some ⟨.type "list", none, .seq #[] c, #[]⟩)
    (k0 : n = 0 → ∀ g tk, (∀ b o, b ∉ wr → b ≠ L → s.heap.get? b = some o → g.get? b = some o) → R (.ok (.ret d)) { s with heap := g, toks := tk })
    (k : 0 < n → ∀ v g tk, P (argBest bb (n - 1)) v → (∀ b o, b ∉ wr → b ≠ L → s.heap.get? b = some o → g.get? b = some o) → R (.ok (.ret v)) { s with heap := g, toks := tk }) :
    codeAny (model prog w) A (.builtin "max.loop" ⟨[.ref I, .none, .ref L], [("default", d)]⟩) R s := by
  have nw : L ∉ wr := fun z => nf (Wk.sub _ z)
  refine codeAny_builtin F.entry_max_loop (by
    rw [Around.under_plainId F.plain_max_loop _]
    show wpAny _ A.in1 (seqItems? (.ref L) >>= _) _ _ s
    refine wpAny_bind (wpAny_seqItems hL rfl ?_); show wpAny _ A.in1 (tryCatch (pyNext (.ref I)) _ >>= _) _ _ s
    by_cases h0 : n = 0
    · subst h0
      refine wpAny_bind (wpAny_tryCatch (Wk.done s _ _ st fun g tk kp => ?_))
      exact wpAny_bind (wpAny_rule (wpAny_pure (k0 rfl g tk fun b o h1 _ z => kp b o h1 z)))
    · have hn : 0 < n := Nat.pos_of_ne_zero h0
      refine wpAny_bind (wpAny_tryCatch (Wk.item 0 s _ _ hn st fun v g tk pv st' kp => ?_))
      have hL' := kp L _ nw hL
      show wpAny _ A.in1 (updateSeq L (fun _ => #[v, v]) >>= _) _ _ _
      refine wpAny_bind (wpAny_updateSeq hL' rfl ?_)
      rw [loopN]
      refine wpAny_pure ⟨plainId_quiet F.plain_max_loop _, max_on _ Wk bb cm L nf (n - 1) 0 _ v _ (by omega) (Wk.frame _ _ _ st' fun b hbf o z => ?_) pv (Heap.get?_update_self _ hL' rfl) fun v' g' tk' p' kp' => ?_⟩
      · exact (Heap.get?_update_other _ _ (fun y : L = b => nf (y ▸ hbf))).trans z
      · exact k hn v' g' tk' p' fun b o h1 h2 z => kp' b o h1 h2 ((Heap.get?_update_other _ _ (Ne.symm h2)).trans (kp b o h1 z)))
end
section
variable {w : World} {prog : Program} {s : Shared} {A : Around} {E : Value → Shared → Prop} {l : Addr} {its : List Value} {ns : List Int} {Q : Value → Shared → Prop}
theorem argsD (a d : Value) : argsOk "max" ⟨[a], [("default", d)]⟩ := by unfold argsOk; kernel_rfl
theorem max_def (hh : A.handled = none) (hl : s.heap.IsList l its.toArray) (hi : IntsAre its ns) (d : Value)
    (k0 : ns = [] → ∀ g tk, (∀ b o, s.heap.get? b = some o → g.get? b = some o) → Q d { s with heap := g, toks := tk })
    (k : ns ≠ [] → ∀ g tk M t', (∀ b o, s.heap.get? b = some o → g.get? b = some o) → M ∈ ns → (∀ a, a ∈ ns → a ≤ M) → Q (.int M t') { s with heap := g, toks := tk }) :
    wpAny (model prog w) A (call (.builtin "max") [.ref l] [("default", d)]) Q E s := by
  obtain ⟨xs, e⟩ := hi.allInts.items
  have hn : numsOf (intItems xs).toList = ns := (congrArg (fun a : Array Value => numsOf a.toList) e).symm.trans hi.numsOf
  rw [nums_intItems] at hn
  subst hn
  rw [e] at hl
  refine wpAny_call (codeAny_call_builtin F.plain_max F.entry_max ?_)
  have chk : checkBuiltinCall "max" ⟨[.ref l], [("default", d)]⟩ = pure () := by
    have ha := argsD (.ref l) d
    simp only [checkBuiltinCall, F.kind_max]
    cases hs : Manifest.signature? "max" with
    | none => rfl
    | some sg => simp only [argsOk, hs] at ha; exact ha
  rw [chk]
  refine wpAny_pure ?_
  show wpAny _ A.in1 (Builtin.Builtins.bindParams "max" ["key", "default"] 0 ⟨[], [("default", d)]⟩ >>= _) _ _ s
  refine wpAny_bind (wpAny_of_eq (show Builtin.Builtins.bindParams "max" ["key", "default"] 0 ⟨[], [("default", d)]⟩ = pure [none, some d] from rfl) ?_)
  refine wpAny_bind (wpAny_pure (wpAny_bind ?_))
  refine iter_intList (prog := prog) (w := w) (A := A.in1) hl fun s₂ e2 st hfp hlI => wpAny_bind (wpAny_newObj_type ?_)
  subst e2
  rw [loopN]
  have nf : (s.heap.push { cls := .type "list_iterator", data := .fields #[.ref l, .int 0 0] }).objs.size ∉ [s.heap.objs.size, l] := fun z => Nat.lt_irrefl _ (hfp _ z)
  have Wk := Walks.list (prog := prog) (w := w) (A := A.in1) hh s.heap.objs.size l hlI (intItems xs)
  refine wpAny_pure ⟨plainId_quiet F.plain_max_loop _, max_at d Wk _ (CmpOf.ints_gt (numAt xs) (fun _ _ => intItems_at)) _ nf (Wk.frame 0 _ _ st fun b _ o z => Heap.get?_push_of_some _ z) (Heap.get?_push_size _ rfl) (fun h0 g tk kp => ?_) (fun h0 v g tk hv kp => ?_)⟩
  · have hx : xs.toList.map (·.1) = [] := by
      have : xs.size = 0 := by simpa [intItems] using h0
      rw [Array.size_eq_zero_iff.mp this]; rfl
    exact k0 hx g tk fun b o z => kp b o (fun y => by
      have : b = s.heap.objs.size := by simpa using y
      exact absurd (Heap.lt_size z) (by rw [this]; exact Nat.lt_irrefl _)) (fun y => absurd (Heap.lt_size z) (by rw [y]; exact Nat.not_lt.mpr (by rw [Heap.size_push]; exact Nat.le_succ _))) (Heap.get?_push_of_some _ (Heap.get?_push_of_some _ z))
  · have hsz : 0 < xs.size := by simpa [intItems] using h0
    have hv' : (intItems xs)[argBest (fun i j => decide (numAt xs i > numAt xs j)) (xs.size - 1)]? = some v := by simpa [intItems] using hv
    obtain ⟨t, rfl⟩ := intItems_at hv'
    obtain ⟨g1, g2⟩ := argBest_gt (numAt xs) (xs.size - 1)
    refine k (fun z => ?_) g tk _ t (fun b o z => kp b o (fun y => ?_) (fun y => absurd (Heap.lt_size z) (by rw [y]; exact Nat.not_lt.mpr (by rw [Heap.size_push]; exact Nat.le_succ _))) (Heap.get?_push_of_some _ (Heap.get?_push_of_some _ z))) ?_ fun a ha => ?_
    · have := congrArg List.length z
      simp at this
      rw [this] at hsz; exact absurd hsz (by decide)
    · have : b = s.heap.objs.size := by simpa using y
      exact absurd (Heap.lt_size z) (by rw [this]; exact Nat.lt_irrefl _)
    · rw [numAt_eq]; exact PySem.getD_mem (by simp only [List.length_map, Array.length_toList]; omega)
    · obtain ⟨j, hj, rfl⟩ := mem_getD ha
      simp only [List.length_map, Array.length_toList] at hj
      rw [← numAt_eq]; exact g2 j (by omega)
end
section
variable {X : Cx}
def rMaxD (K : PySem.W.Frag) : List V → List V → Hp → VK → Prop := fun vs zs H Q => ∃ (a : Addr) (ns : List Int) (d : Int), vs = [.ref a] ∧ zs = [.int d] ∧ SqL K H a (ns.map V.int) ∧ (ns = [] → Q (.int d) H) ∧ (∀ m, ns ≠ [] → m ∈ ns → (∀ y, y ∈ ns → y ≤ m) → Q (.int m) H)
theorem cr_maxD (hc : X.calm = true) : CallRK X (.builtin "max") ["default"] (rMaxD X.K) := by
  rintro pins s σ H vs zs us ws Q I r rz ⟨a, ns, d, rfl, rfl, hS, k0, k⟩
  obtain ⟨u, rfl, ru⟩ := vals1 r
  cases ru
  obtain ⟨z, rfl, rz'⟩ := vals1 rz
  obtain ⟨td, rfl⟩ := rz'
  obtain ⟨its, r', pl, hz⟩ := I.list hS
  refine max_def (I.ok.hd hc) pl.isList (Vals.ints r') _ (fun e g tk kp => ⟨.int d, H, I.kept (t' := tk) kp, ⟨_, rfl⟩, k0 e⟩) (fun e g tk m t' kp h1 h2 => ⟨.int m, H, I.kept (t' := tk) kp, ⟨_, rfl⟩, k m e h1 h2⟩)
end
/-! ### readings, one step at a time -/
section
variable {σ : L2.St} {H : Hp} {Q : VK} {R : Bool → Hp → Prop} {D : Ends} {K : PySem.W.Frag} {x y v : V}
theorem s_var {i : Nat} (h : σ[i]? = some (some v)) (k : Q v H) : tVar i σ H Q := ⟨v, h, k⟩
theorem s_c (k : Q v H) : tC v σ H Q := k
theorem s_op {r : R2} {ta tb : TE} (k : ta σ H fun x H1 => tb σ H1 fun y H2 => r x y H2 Q) : tOp r ta tb σ H Q := k
theorem s_un {r : V → Hp → VK → Prop} {ta : TE} (k : ta σ H fun x H1 => r x H1 Q) : tUn r ta σ H Q := k
theorem s_test {t : TE} (k : t σ H fun x H' => ∃ b, x = .bl b ∧ R b H') : tTest t σ H R := k
theorem s_B {t : TE} (k : t σ H fun x H' => ∃ b, x = .bl b ∧ R b H') : tB t σ H R := k
theorem s_bl {b : Bool} {P : Bool → Prop} (k : P b) : ∃ c, V.bl b = .bl c ∧ P c := ⟨b, rfl, k⟩
theorem s_not {t : TT} (k : t σ H fun c H1 => R (!c) H1) : tNot t σ H R := k
theorem s_and {t u : TT} (k : t σ H fun c H1 => if c = true then u σ H1 R else R false H1) : tAnd t u σ H R := k
theorem s_or {t u : TT} (k : t σ H fun c H1 => if c = true then R true H1 else u σ H1 R) : tOr t u σ H R := k
theorem s_andV {ta tb : TE} (k : ta σ H fun x H1 => ∃ c, x = .bl c ∧ if c = true then tb σ H1 Q else Q (.bl false) H1) : tAndV ta tb σ H Q := k
theorem s_orV {ta tb : TE} (k : ta σ H fun x H1 => ∃ c, x = .bl c ∧ if c = true then Q (.bl true) H1 else tb σ H1 Q) : tOrV ta tb σ H Q := k
theorem s_notV {ta : TE} (k : ta σ H fun x H1 => ∃ c, x = .bl c ∧ Q (.bl (!c)) H1) : tNotV ta σ H Q := k
theorem s_ifE {t : TT} {ta tb : TE} (k : t σ H fun c H1 => if c = true then ta σ H1 Q else tb σ H1 Q) : tIf t ta tb σ H Q := k
theorem s_cons {ta : TE} {tr : TA} {P : List V → Hp → Prop} (k : ta σ H fun x H1 => tr σ H1 fun xs H2 => P (x :: xs) H2) : tCons ta tr σ H P := k
theorem s_nil {P : List V → Hp → Prop} (k : P [] H) : tNil σ H P := k
theorem s_cb {r : List V → Hp → VK → Prop} {t : TA} (k : t σ H fun vs H1 => r vs H1 Q) : tCB r t σ H Q := k
theorem s_call {sp : Sp} {E : L2.St → XK} {t : TA} (k : t σ H fun vs H1 => sp vs H1 Q (E σ)) : tCallS sp E t σ H Q := k
theorem s_seq {t u : TS} (k : t { D with nx := u D } σ H) : tSeq t u D σ H := k
theorem s_asg {te : TE} {g : TG} (k : te σ H fun x H1 => g x σ H1 D.nx) : tAsg te g D σ H := k
theorem s_gn {i : Nat} {P : L2.St → Hp → Prop} (k : P (σ.set i (some v)) H) : gName i v σ H P := k
theorem s_ifS {c : TT} {t u : TS} (k : c σ H fun b H1 => if b = true then t D σ H1 else u D σ H1) : tIfS c t u D σ H := k
theorem s_ret {te : TE} (k : te σ H D.rt) : tRet te D σ H := k
theorem s_retN (k : D.rt .non H) : tRetN D σ H := k
theorem s_drop {te : TE} (k : te σ H fun _ H1 => D.nx σ H1) : tDrop te D σ H := k
theorem s_next (k : D.nx σ H) : tNext D σ H := k
theorem s_tup {t : TA} (k : t σ H fun xs H1 => xs.length ≤ sizeLine ∧ ∀ p, H1 p = none → Q (.ref p) (upd H1 p (.tup xs))) : tTup t σ H Q := k
theorem s_lst {t : TA} (k : t σ H fun xs H1 => xs.length ≤ sizeLine ∧ ∀ p, H1 p = none → Q (.ref p) (upd H1 p (.lst xs))) : tLst t σ H Q := k
theorem s_chain {r r' : R2} {ta tb tc : TE} (k : ta σ H fun x H1 => tb σ H1 fun y H2 => r x y H2 fun z H3 => ∃ b, z = .bl b ∧ (if b = true then tc σ H3 fun u H4 => r' y u H4 Q else Q (.bl false) H3)) : tChain r r' ta tb tc σ H Q := k
theorem s_sl {r : V → Option Int → Option Int → Hp → VK → Prop} {te : TE} {tl th : TO} (k : te σ H fun x H1 => tl σ H1 fun l H2 => th σ H2 fun u H3 => r x l u H3 Q) : tSl r te tl th σ H Q := k
theorem s_no {P : Option Int → Hp → Prop} (k : P none H) : tNoPart σ H P := k
theorem s_part {t : TE} {P : Option Int → Hp → Prop} (k : t σ H fun x H1 => ∃ i, x = .int i ∧ P (some i) H1) : tPart t σ H P := k
theorem s_ib {i : Int} {P : Int → Prop} (k : P i) : ∃ c, V.int i = .int c ∧ P c := ⟨i, rfl, k⟩
theorem s_fld {ta : TE} {f : Str} (k : ta σ H fun x H1 => ∃ a C dx fs v, x = .ref a ∧ H1 a = some (.ins C dx fs) ∧ Cls K C ∧ NoAttr K C f ∧ fs.lookup f = some v ∧ Q v H1) : tFld K ta f σ H Q := k
theorem s_bm {T : String} {r : V → List V → Hp → VK → Prop} {to : TE} {t : TA} (k : to σ H fun x H1 => tyV K T x H1 ∧ t σ H1 fun xs H2 => r x xs H2 Q) : tBM K T r to t σ H Q := k
/-! by values -/
theorem s_I0 {g : Int → Int → V} {i j : Int} (k : Q (g i j) H) : rI0 g (.int i) (.int j) H Q := ⟨i, j, rfl, rfl, k⟩
theorem s_I {C : Int → Int → Prop} {g : Int → Int → V} {i j : Int} (c : C i j) (k : Q (g i j) H) : rI C g (.int i) (.int j) H Q := ⟨i, j, rfl, rfl, c, k⟩
theorem s_addI {i j : Int} (k : Q (.int (i + j)) H) : rAddA K (.int i) (.int j) H Q := .inl ⟨i, j, rfl, rfl, k⟩
theorem s_addS {i j : Str} (c : i.length + j.length ≤ sizeLine) (k : Q (.str (i ++ j)) H) : rAddA K (.str i) (.str j) H Q := .inr (.inl ⟨i, j, rfl, rfl, c, k⟩)
theorem s_addL {a b : Addr} {xs ys : List V} (ha : SqL K H a xs) (hb : SqL K H b ys) (c : xs.length + ys.length ≤ sizeLine) (k : ∀ p, H p = none → Q (.ref p) (upd H p (.lst (xs ++ ys)))) : rAddA K (.ref a) (.ref b) H Q := .inr (.inr (.inl ⟨a, b, xs, ys, rfl, rfl, ha, hb, c, k⟩))
theorem s_eq (h : scal x y = true) (k : Q (.bl (decide (x = y))) H) : rEqA K x y H Q := .inl ⟨h, k⟩
theorem s_ne (h : scal x y = true) (k : Q (.bl (!decide (x = y))) H) : rNeA K x y H Q := .inl ⟨h, k⟩
theorem s_eqD {d e : PyData} (hd : Dp K H x d) (he : Dp K H y e) (sd : SeqAt.shaped d = true) (se : SeqAt.shaped e = true) (k : Q (.bl (PyData.eqv d e)) H) : rEqA K x y H Q := .inr ⟨d, e, hd, he, sd, se, k⟩
theorem s_neD {d e : PyData} (hd : Dp K H x d) (he : Dp K H y e) (sd : SeqAt.shaped d = true) (se : SeqAt.shaped e = true) (k : Q (.bl (!PyData.eqv d e)) H) : rNeA K x y H Q := .inr ⟨d, e, hd, he, sd, se, k⟩
theorem s_in1 {c : Nat} {z : Str} (k : Q (.bl (decide (c ∈ z.cps.toList))) H) : rInA K (.str ⟨#[c]⟩) (.str z) H Q := .inl ⟨c, z, rfl, rfl, k⟩
theorem s_notin1 {c : Nat} {z : Str} (k : Q (.bl (!decide (c ∈ z.cps.toList))) H) : rNotInA K (.str ⟨#[c]⟩) (.str z) H Q := .inl ⟨c, z, rfl, rfl, k⟩
theorem s_ixS {z : Str} {i : Int} {c : Nat} (hl : z.length ≤ sizeLine) (h : atI z.cps.toList i = some c) (k : Q (.str ⟨#[c]⟩) H) : rIx K (.str z) (.int i) H Q := .inr (.inr ⟨z, i, c, rfl, rfl, hl, h, k⟩)
theorem s_ixL {a : Addr} {xs : List V} {i : Int} (hl : SqL K H a xs) (h : atI xs i = some v) (k : Q v H) : rIx K (.ref a) (.int i) H Q := .inl ⟨a, xs, i, v, rfl, rfl, hl, h, k⟩
theorem s_ixT {a : Addr} {xs : List V} {i : Int} (hl : SqT K H a xs) (h : atI xs i = some v) (k : Q v H) : rIx K (.ref a) (.int i) H Q := .inr (.inl ⟨a, xs, i, v, rfl, rfl, hl, h, k⟩)
theorem iteD {c A B : Prop} [Decidable c] (h1 : c → A) (h2 : ¬ c → B) : if decide c = true then A else B := by
  by_cases h : c
  · rw [if_pos (decide_eq_true h)]; exact h1 h
  · rw [if_neg (by simp [h])]; exact h2 h
theorem iteN {c A B : Prop} [Decidable c] (h1 : ¬ c → A) (h2 : c → B) : if (!decide c) = true then A else B := by
  by_cases h : c
  · rw [if_neg (by simp [h])]; exact h2 h
  · rw [if_pos (by simp [h])]; exact h1 h
theorem iteB {b : Bool} {A B : Prop} (h1 : b = true → A) (h2 : b = false → B) : if b = true then A else B := by
  cases b with
  | true => exact h1 rfl
  | false => exact h2 rfl
end
/-! heaps -/
section
variable {H H' : Hp} {p a : Addr} {o u : HO}
theorem up (h : H p = none) (e : H a = some u) : upd H p o a = some u := by
  rw [upd_ne (ne_of_none e h)]; exact e
theorem same_new (h : H p = none) : Same H (upd H p o) := fun b x e => up h e
theorem same_mut (e : Same H H') (h : H p = none) : Same H (upd H' p o) := fun b x q => by
  rw [upd_ne (ne_of_none q h)]; exact e b x q
theorem same_t {K : PySem.W.Frag} {xs : List V} (e : Same H H') (h : SqT K H a xs) : SqT K H' a xs := by
  rcases h with (h | ⟨o, h⟩) | h
  · exact .inl (.inl (e _ _ h))
  · exact .inl (.inr ⟨o, e _ _ h⟩)
  · exact .inr h
end
/-! ### a comprehension without a test, over what stands still -/
/-- a walk of n turns over what stands at H: turn i gives x with S i x behind it -/
structure Still (J : It) (H : Hp) (n : Nat) (S : Nat → V → Hp → Prop) : Prop where
  go : ∀ i H', Same H H' → i < n → J.go i H'
  yl : ∀ i x H' H'', Same H H' → i < n → J.yld i H' x H'' → Same H' H'' ∧ S i x H''
  st : ∀ H', Same H H' → J.stop n H'
theorem still_list {K : PySem.W.Frag} {H : Hp} {a : Addr} {xs : List V} (h : SqL K H a xs) : Still (Itl K a) H xs.length (fun i x _ => xs[i]? = some x) where
  go := fun i H' s hi => ⟨xs, xs[i], s.seq h, List.getElem?_eq_getElem hi⟩
  yl := fun i x H' H'' s hi y => ⟨y.1 ▸ Same.refl _, y.2 xs (s.seq h)⟩
  st := fun H' s => ⟨xs, s.seq h, Nat.le_refl _⟩
theorem still_tup {K : PySem.W.Frag} {H : Hp} {a : Addr} {xs : List V} (h : SqT K H a xs) : Still (Itt K a) H xs.length (fun i x _ => xs[i]? = some x) where
  go := fun i H' s hi => ⟨xs, xs[i], same_t s h, List.getElem?_eq_getElem hi⟩
  yl := fun i x H' H'' s hi y => ⟨y.1 ▸ Same.refl _, y.2 xs (same_t s h)⟩
  st := fun H' s => ⟨xs, same_t s h, Nat.le_refl _⟩
theorem still_str {H : Hp} {z : Str} : Still (Its z) H z.cps.toList.length (fun i x _ => ∃ c, z.cps.toList[i]? = some c ∧ x = .str ⟨#[c]⟩) where
  go := fun i H' s hi => by show i < z.cps.size; simpa using hi
  yl := fun i x H' H'' s hi y => by
    obtain ⟨e, c, h1, h2⟩ := y
    exact ⟨e ▸ Same.refl _, c, by simpa using h1, h2⟩
  st := fun H' s => by show z.cps.size ≤ _; simp
theorem still_rng {H : Hp} {lo : Int} {n : Nat} : Still (Itr lo n) H n (fun i x _ => x = .int (lo + i)) where
  go := fun i H' s hi => hi
  yl := fun i x H' H'' s hi y => ⟨y.1 ▸ Same.refl _, y.2⟩
  st := fun H' s => Nat.le_refl _
theorem still_enum {K : PySem.W.Frag} {H : Hp} {a : Addr} {xs : List V} (h : SqL K H a xs) : Still (Ite K a) H xs.length (fun i x H'' => ∃ T v, x = .ref T ∧ H'' T = some (.tup [.int (i : Nat), v]) ∧ xs[i]? = some v) where
  go := fun i H' s hi => ⟨xs, xs[i], s.seq h, List.getElem?_eq_getElem hi⟩
  yl := fun i x H' H'' s hi y => by
    obtain ⟨T, v, e1, e2, e3, e4⟩ := y
    subst e3
    exact ⟨same_new e2, T, v, e1, upd_same, e4 xs (s.seq h)⟩
  st := fun H' s => ⟨xs, s.seq h, Nat.le_refl _⟩
def LcW (J : It) (g : TG) (te : TE) (vs : List Nat) (σ : L2.St) (H1 : Hp) (Q : VK) : Prop :=
  ∀ D, H1 D = none → ∃ W : Nat → Nat → Hp → Prop, (∃ m, W 0 m (upd H1 D (.lst []))) ∧ ∀ i m H, W i m H → (J.stop i H ∧ Q (.ref D) H) ∨ (J.go i H ∧ ∃ Nx : Hp → Prop, (∀ H', Nx H' → ∃ m', m' < m ∧ W (i + 1) m' H') ∧
    ∀ x H', J.yld i H x H' → g x (wipe σ vs) H' fun σ2 H2 => wipe σ2 vs = wipe σ vs ∧ tYes σ2 H2 fun b H3 => if b = true then te σ2 H3 fun y H4 => ∃ acc, H4 D = some (.lst acc) ∧ acc.length < sizeLine ∧ Nx (upd H4 D (.lst (acc ++ [y]))) else Nx H3)
theorem tyes_to {σ : L2.St} {H : Hp} {P P' : Hp → Prop} (h : P H) : tYes σ H fun b H3 => if b = true then P H3 else P' H3 := h
theorem lc_all {J : It} {g : TG} {te : TE} {vs : List Nat} {σ : L2.St} {H1 : Hp} {Q : VK} {n : Nat} {S : Nat → V → Hp → Prop} (T : Still J H1 n S) (R : Addr → Nat → V → Hp → Prop) (hn : n ≤ 100000)
    (hR : ∀ D i y H H', (∀ b o, b ≠ D → H b = some o → H' b = some o) → R D i y H → R D i y H')
    (hs : ∀ D i x acc H', H1 D = none → i < n → S i x H' → Same H1 H' → H' D = some (.lst acc) → ∀ Q' : VK, (∀ y H'', Same H' H'' → R D i y H'' → Q' y H'') → g x (wipe σ vs) H' fun σ2 H2 => wipe σ2 vs = wipe σ vs ∧ te σ2 H2 Q')
    (k : ∀ D ys H', H1 D = none → Same H1 H' → H' D = some (.lst ys) → ys.length = n → (∀ i y, ys[i]? = some y → R D i y H') → Q (.ref D) H')
    (hg : ∀ x σ1 H' (P P' : L2.St → Hp → Prop), (∀ s h, P s h → P' s h) → g x σ1 H' P → g x σ1 H' P') : LcW J g te vs σ H1 Q := by
  intro D hD
  refine ⟨fun i m H => m = n - i ∧ i ≤ n ∧ Same H1 H ∧ ∃ ys, H D = some (.lst ys) ∧ ys.length = i ∧ ∀ j y, ys[j]? = some y → R D j y H, ⟨n, rfl, Nat.zero_le _, same_new hD, [], upd_same, rfl, fun j y e => by simp at e⟩, ?_⟩
  rintro i m H ⟨rfl, hi, s, ys, hy, hl, hr⟩
  by_cases hlt : i < n
  · refine .inr ⟨T.go i H s hlt, fun H' => i + 1 ≤ n ∧ Same H1 H' ∧ ∃ ys, H' D = some (.lst ys) ∧ ys.length = i + 1 ∧ ∀ j y, ys[j]? = some y → R D j y H', fun H' p => ⟨n - (i + 1), by omega, rfl, p.1, p.2⟩, fun x H' yl => ?_⟩
    obtain ⟨sx, hS⟩ := T.yl i x H H' s hlt yl
    replace hy := sx _ _ hy
    replace s := s.trans sx
    replace hr := fun j y ez => hR D j y H H' (fun b o _ q => sx b o q) (hr j y ez)
    refine hg _ _ _ _ _ (fun s2 h2 z => And.intro z.1 (tyes_to z.2)) (hs D i x ys H' hD hlt hS s hy _ fun y H'' e hy' => ?_)
    refine ⟨ys, e _ _ hy, Nat.lt_of_lt_of_le (by omega : ys.length < 100001) (by rw [sizeLine_eq]; decide), hlt, same_mut (s.trans e) hD, ys ++ [y], upd_same, by rw [List.length_append, hl]; rfl, fun j z ez => ?_⟩
    have kp : ∀ b o, b ≠ D → H'' b = some o → upd H'' D (.lst (ys ++ [y])) b = some o := fun b o hb q => by rw [upd_ne hb]; exact q
    by_cases hj : j < ys.length
    · rw [List.getElem?_append_left hj] at ez
      exact hR D j z H'' _ kp (hR D j z H' _ (fun b o _ q => e b o q) (hr j z ez))
    · rw [List.getElem?_append_right (Nat.le_of_not_lt hj)] at ez
      have h0 : j - ys.length = 0 := by
        cases hq : j - ys.length with
        | zero => rfl
        | succ q => rw [hq] at ez; simp at ez
      rw [h0] at ez
      have ey : y = z := by simpa using ez
      have ej : j = i := by omega
      subst ey ej
      exact hR D j y H'' _ kp hy'
  · have ei : i = n := by omega
    subst ei
    exact .inl ⟨T.st H s, k D ys H hD s hy hl hr⟩
def ForW (J : It) (g : TG) (tb : TS) (D : Ends) (σ : L2.St) (H1 : Hp) : Prop := ∃ W : Nat → Nat → L2.St → Hp → Prop, (∃ m, W 0 m σ H1) ∧ ∀ i m σ H, W i m σ H →
  (J.stop i H ∧ D.nx σ H) ∨ (J.go i H ∧ ∃ N : L2.St → Hp → Prop, (∀ σ' H', N σ' H' → ∃ m', m' < m ∧ W (i + 1) m' σ' H') ∧ ∀ x H', J.yld i H x H' → g x σ H' fun σ2 H2 => tb { D with nx := N, ct := N, bk := D.nx } σ2 H2)
theorem for_all {J : It} {g : TG} {tb : TS} {D : Ends} {σ : L2.St} {H : Hp} {n : Nat} {S : Nat → V → Hp → Prop} (T : Still J H n S) (Pv : Nat → L2.St → Hp → Prop) (hP : ∀ i σ' H' H'', Same H' H'' → Pv i σ' H' → Pv i σ' H'') (h0 : Pv 0 σ H)
    (hs : ∀ i x σ' H', i < n → S i x H' → Same H H' → Pv i σ' H' → g x σ' H' fun σ2 H2 => tb { D with nx := fun s h => Same H h ∧ Pv (i + 1) s h, ct := fun s h => Same H h ∧ Pv (i + 1) s h, bk := D.nx } σ2 H2)
    (hd : ∀ σ' H', Same H H' → Pv n σ' H' → D.nx σ' H') : ForW J g tb D σ H := by
  refine ⟨fun i m σ' H' => m = n - i ∧ i ≤ n ∧ Same H H' ∧ Pv i σ' H', ⟨n, rfl, Nat.zero_le _, Same.refl _, h0⟩, ?_⟩
  rintro i m σ' H' ⟨rfl, hi, s, p⟩
  by_cases hlt : i < n
  · refine .inr ⟨T.go i H' s hlt, fun s' h' => Same H h' ∧ Pv (i + 1) s' h', fun s' h' q => ⟨n - (i + 1), by omega, rfl, hlt, q⟩, fun x H'' yl => ?_⟩
    obtain ⟨sx, hS⟩ := T.yl i x H' H'' s hlt yl
    exact hs i x σ' H'' hlt hS (s.trans sx) (hP i σ' H' H'' sx p)
  · have ei : i = n := by omega
    subst ei
    exact .inl ⟨T.st H' s, hd σ' H' s p⟩
theorem s_for {wi : TI} {g : TG} {tb : TS} {D : Ends} {σ : L2.St} {H : Hp} (k : wi σ H fun J H1 => ForW J g tb D σ H1) : tFor wi g tb D σ H := k
theorem s_enum {K : PySem.W.Frag} {ta : TA} {σ : L2.St} {H : Hp} {R : It → Hp → Prop} (k : ta σ H fun vs H1 => ∃ a xs, vs = [.ref a] ∧ SqL K H1 a xs ∧ R (Ite K a) H1) : iEnum K ta σ H R := k
theorem s_gT {K : PySem.W.Frag} {n : Nat} {t : TGs} {a : Addr} {xs : List V} {σ : L2.St} {H : Hp} {P : L2.St → Hp → Prop} (h : SqT K H a xs) (hl : xs.length = n) (k : t xs σ H P) : gTA K n t (.ref a) σ H P := .inl ⟨a, xs, rfl, h, hl, k⟩
theorem s_gL {K : PySem.W.Frag} {n : Nat} {t : TGs} {a : Addr} {xs : List V} {σ : L2.St} {H : Hp} {P : L2.St → Hp → Prop} (h : SqL K H a xs) (hl : xs.length = n) (k : t xs σ H P) : gTA K n t (.ref a) σ H P := .inr ⟨a, xs, rfl, h, hl, k⟩
theorem s_gcons {t : TG} {u : TGs} {v : V} {r : List V} {σ : L2.St} {H : Hp} {P : L2.St → Hp → Prop} (k : t v σ H fun σ' H' => u r σ' H' P) : gCons t u (v :: r) σ H P := ⟨v, r, rfl, k⟩
theorem s_gnil {σ : L2.St} {H : Hp} {P : L2.St → Hp → Prop} (k : P σ H) : gNil [] σ H P := ⟨rfl, k⟩
/-- an error of one field, of two -/
def Err1 (C : Addr) (f : Str) (v : V) (E : XK) (H : Hp) : Prop := ∀ (d : Addr) (H' : Hp), H d = none → Same H H' → H' d = some (.xd [(f, v)]) → E (.ref C) (some d) H'
def Err2 (C : Addr) (f f' : Str) (v v' : V) (E : XK) (H : Hp) : Prop := ∀ (d : Addr) (H' : Hp), H d = none → Same H H' → H' d = some (.xd [(f', v'), (f, v)]) → E (.ref C) (some d) H'
theorem Err1.mono {C : Addr} {f : Str} {v : V} {E : XK} {H H' : Hp} (e : Err1 C f v E H) (s : Same H H') : Err1 C f v E H' := fun d H2 hd s2 x => e d H2 (s.free hd) (s.trans s2) x
theorem Err2.mono {C : Addr} {f f' : Str} {v v' : V} {E : XK} {H H' : Hp} (e : Err2 C f f' v v' E H) (s : Same H H') : Err2 C f f' v v' E H' := fun d H2 hd s2 x => e d H2 (s.free hd) (s.trans s2) x
/-! ### the rules with the written part told (within a comprehension's block it must not hang on the block) -/
section
variable {X : Cx} (K : PySem.W.Frag)
theorem oAdd (h : X.K = K := by rfl) : OpR X (binaryOp .Add) (rAddA K) := h ▸ op_addA
theorem oEq (hu : X.A.units + 64 < cLine) (h : X.K = K := by rfl) : OpR X (compareOp .Eq) (rEqA K) := h ▸ op_eqA hu
theorem oNe (hu : X.A.units + 64 < cLine) (h : X.K = K := by rfl) : OpR X (compareOp .NotEq) (rNeA K) := h ▸ op_neA hu
theorem oIn (h : X.K = K := by rfl) : OpR X (compareOp .In) (rInA K) := h ▸ op_inA
theorem oNotIn (h : X.K = K := by rfl) : OpR X (compareOp .NotIn) (rNotInA K) := h ▸ op_notInA
theorem oSl (h : X.K = K := by rfl) : SlR X (rSlA K) := h ▸ sl_A
theorem oIx (h : X.K = K := by rfl) : IxR X (rIx K) := h ▸ ix_seq
def rLenA (K : PySem.W.Frag) : List V → Hp → VK → Prop := fun xs H Q => ∃ x n, xs = [x] ∧ LenV K x H n ∧ Q (.int n) H
theorem oLen (h : X.K = K := by rfl) : CallR X (.builtin "len") (rLenA K) := h ▸ call_len
def rTupOf (K : PySem.W.Frag) : List V → Hp → VK → Prop := fun xs H Q => ∃ p ys, xs = [.ref p] ∧ ((SqL K H p ys ∧ ∀ l, H l = none → Q (.ref l) (upd H l (.tup ys))) ∨ (SqT K H p ys ∧ Q (.ref p) H))
theorem oTuple (h : X.K = K := by rfl) : CallR X (.type "tuple") (rTupOf K) := h ▸ call_tuple_of
def rLstOf (K : PySem.W.Frag) : List V → Hp → VK → Prop := fun xs H Q => ∃ p ys, xs = [.ref p] ∧ (SqL K H p ys ∨ SqT K H p ys) ∧ ∀ l, H l = none → Q (.ref l) (upd H l (.lst ys))
theorem oList (h : X.K = K := by rfl) : CallR X (.type "list") (rLstOf K) := h ▸ call_list_of
theorem oSum (hc : X.calm = true) (h : X.K = K := by rfl) : CallR X (.builtin "sum") (rSum K) := h ▸ cr_sum hc
theorem oMax (hc : X.calm = true) (h : X.K = K := by rfl) : CallR X (.builtin "max") (rMax K) := h ▸ cr_max hc
theorem oMin (hc : X.calm = true) (h : X.K = K := by rfl) : CallR X (.builtin "min") (rMin K) := h ▸ cr_min hc
theorem oAny (hc : X.calm = true) (h : X.K = K := by rfl) : CallR X (.builtin "any") (rAny K) := h ▸ cr_any hc
theorem oAll (hc : X.calm = true) (h : X.K = K := by rfl) : CallR X (.builtin "all") (rAll K) := h ▸ cr_all hc
theorem oMaxD (hc : X.calm = true) (h : X.K = K := by rfl) : CallRK X (.builtin "max") ["default"] (rMaxD K) := h ▸ cr_maxD hc
theorem oIt {tg l : Expr} {te : TE} (e : PE X l te) (h : X.K = K := by rfl) : PI X tg l (iA K te) := h ▸ pi_A e
theorem oEnum {e : Expr} {ta : TA} {p pos tpos : Pos} {elts : List Expr} {kk : Nat} (hg : Gl X "enumerate") (hm : X.mg "enumerate" = none) (ha : PA X [e] ta) (h : X.K = K := by rfl) (hs : starEach [e] X.env = [(false, eval e X.env)] := by rfl) :
    PI X (.Tuple elts kk tpos) (.Call (.Name "enumerate" p) [e] [] pos) (iEnum K ta) := h ▸ pi_enum hg hm ha hs
theorem oTup {pos : Pos} {es : List Expr} {k : Nat} {t : TGs} {n : Nat} (hc : X.calm = true) (e : PGs X es t) (h : X.K = K := by rfl) (hn : (assignEach es X.env).length = n := by rfl) (hst : (assignEach es X.env).findIdx? (·.1) = none := by rfl) : PG X (.Tuple es k pos) (gTA K n t) := h ▸ pg_tupA hc e hn hst
theorem oFld {e : Expr} {ta : TE} {f : Str} {pos : Pos} (he : PE X e ta) (h : X.K = K := by rfl) (hb : attributeBase e f X.env (eval e X.env) = eval e X.env := by rfl) : PE X (.Attribute e f pos) (tFld K ta f) := h ▸ pe_fld he hb
theorem oApp {o e : Expr} {es : List Expr} {to : TE} {t : TA} {apos cpos : Pos} (ho : PE X o to) (ha : PA X (e :: es) t) (h : X.K = K := by rfl) (hbase : attributeBase o "append" X.env (eval o X.env) = eval o X.env := by rfl)
    (hp : PE X (.Call (.Attribute o "append" apos) (e :: es) [] cpos) (tBM X.K "list" rAppend to t)) : PE X (.Call (.Attribute o "append" apos) (e :: es) [] cpos) (tBM K "list" rAppend to t) := h ▸ hp
end
section
variable {σ : L2.St} {H : Hp} {Q : VK} {K : PySem.W.Frag}
theorem s_mkO {C : Addr} {sp : Sp} {ta : TA} {Q : XK} (k : ta σ H fun vs H1 => vs.length ≤ 1000 ∧ ∀ a, H1 a = none → sp (.ref a :: (vs ++ [])) (upd H1 a (exo a C none)) (fun v H2 => v = .non ∧ ∃ (d : Addr) (fs : List (Str × V)), H2 a = some (exo a C (some d)) ∧ H2 d = some (exd d fs) ∧ H1 d = none ∧ Q (.ref C) (some d) (upd (del H2 a) d (.xd fs))) (fun _ _ _ => False)) : tMkO C sp [] ta σ H Q := k
theorem s_lenS {z : Str} (h : z.length ≤ sizeLine) (k : Q (.int z.length) H) : rLenA K [.str z] H Q := ⟨.str z, z.length, rfl, ⟨h, rfl⟩, k⟩
theorem s_lenL {a : Addr} {xs : List V} (h : SqL K H a xs) (k : Q (.int xs.length) H) : rLenA K [.ref a] H Q := ⟨.ref a, xs.length, rfl, .inl ⟨xs, h, rfl⟩, k⟩
theorem s_lenT {a : Addr} {xs : List V} (h : SqT K H a xs) (k : Q (.int xs.length) H) : rLenA K [.ref a] H Q := ⟨.ref a, xs.length, rfl, .inr ⟨xs, h, rfl⟩, k⟩
theorem s_lc {wi : TI} {g : TG} {te : TE} {vs : List Nat} (k : wi σ H fun J H1 => LcW J g te vs σ H1 Q) : tLc wi g tYes te vs σ H Q := k
theorem s_itS {te : TE} {R : It → Hp → Prop} (k : te σ H fun v H1 => ∃ x, v = .str x ∧ R (Its x) H1) : iA K te σ H R := .inr (.inr k)
theorem s_itL {te : TE} {R : It → Hp → Prop} (k : te σ H fun x H1 => ∃ a, x = .ref a ∧ (∃ xs, SqL K H1 a xs) ∧ R (Itl K a) H1) : iA K te σ H R := .inl k
theorem s_itT {te : TE} {R : It → Hp → Prop} (k : te σ H fun x H1 => ∃ a, x = .ref a ∧ (∃ xs, SqT K H1 a xs) ∧ R (Itt K a) H1) : iA K te σ H R := .inr (.inl k)
theorem s_all {a : Addr} {bs : List Bool} (h : SqL K H a (bs.map V.bl)) (k : Q (.bl (bs.all id)) H) : rAll K [.ref a] H Q := ⟨a, bs, rfl, h, k⟩
theorem s_any {a : Addr} {bs : List Bool} (h : SqL K H a (bs.map V.bl)) (k : Q (.bl (bs.any id)) H) : rAny K [.ref a] H Q := ⟨a, bs, rfl, h, k⟩
theorem s_sum {a : Addr} {ns : List Int} (h : SqL K H a (ns.map V.int)) (k : Q (.int ns.sum) H) : rSum K [.ref a] H Q := ⟨a, ns, rfl, h, k⟩
theorem s_tupL {a : Addr} {xs : List V} (h : SqL K H a xs) (k : ∀ l, H l = none → Q (.ref l) (upd H l (.tup xs))) : rTupOf K [.ref a] H Q := ⟨a, xs, rfl, .inl ⟨h, k⟩⟩
theorem s_tupT {a : Addr} {xs : List V} (h : SqT K H a xs) (k : Q (.ref a) H) : rTupOf K [.ref a] H Q := ⟨a, xs, rfl, .inr ⟨h, k⟩⟩
theorem s_lstL {a : Addr} {xs : List V} (h : SqL K H a xs) (k : ∀ l, H l = none → Q (.ref l) (upd H l (.lst xs))) : rLstOf K [.ref a] H Q := ⟨a, xs, rfl, .inl h, k⟩
theorem s_lstT {a : Addr} {xs : List V} (h : SqT K H a xs) (k : ∀ l, H l = none → Q (.ref l) (upd H l (.lst xs))) : rLstOf K [.ref a] H Q := ⟨a, xs, rfl, .inr h, k⟩
theorem ge_map {α β : Type} {f : α → β} {l : List α} {m : List β} (hl : m.length = l.length) (h : ∀ (i : Nat) y, m[i]? = some y → ∃ x, l[i]? = some x ∧ y = f x) : m = l.map f := by
  apply List.ext_getElem?
  intro i
  rw [List.getElem?_map]
  cases e : m[i]? with
  | none =>
    have : l[i]? = none := by rw [List.getElem?_eq_none_iff] at e ⊢; omega
    rw [this]; rfl
  | some y =>
    obtain ⟨x, e2, rfl⟩ := h i y e
    rw [e2]; rfl
theorem gn_mono {i : Nat} : ∀ x σ1 H' (P P' : L2.St → Hp → Prop), (∀ s h, P s h → P' s h) → gName i x σ1 H' P → gName i x σ1 H' P' := fun _ _ _ _ _ h q => h _ _ q
theorem iteNF {A B : Prop} (h : A) : if (!false) = true then A else B := h
theorem iteNT {A B : Prop} (h : B) : if (!true) = true then A else B := h
theorem atI0 {α : Type} {c : α} {r : List α} : atI (c :: r) 0 = some c := atI_nat (j := 0) rfl
theorem line_of {n : Nat} (h : n ≤ 100000) : n ≤ sizeLine := Nat.le_trans h (by rw [sizeLine_eq]; decide)
theorem line_lt {n : Nat} (h : n ≤ 100000) : n < sizeLine := Nat.lt_of_le_of_lt h (by rw [sizeLine_eq]; decide)
theorem s_slL {a : Addr} {xs : List V} {lo hi : Option Int} (h : SqL K H a xs) (k : ∀ p, H p = none → Q (.ref p) (upd H p (.lst (cutV xs lo hi)))) : rSlA K (.ref a) lo hi H Q := .inl ⟨a, xs, rfl, h, k⟩
theorem s_slS {z : Str} {lo hi : Option Int} (h : z.length ≤ sizeLine) (k : Q (.str (PySem.Txt.slice z lo hi)) H) : rSlA K (.str z) lo hi H Q := .inr (.inr ⟨z, rfl, h, k⟩)
theorem cut_to (xs : List V) (i : Nat) : cutV xs none (some (i : Int)) = xs.take i := by
  unfold cutV
  rw [HT.sIx_none, HT.sIx_nat]
  show List.take (min i xs.length - 0) (xs.drop 0) = _
  rw [List.drop_zero, Nat.sub_zero]
  by_cases h : i ≤ xs.length
  · rw [Nat.min_eq_left h]
  · rw [Nat.min_eq_right (by omega), List.take_length, List.take_of_length_le (by omega)]
theorem s_inL {x : V} {a : Addr} {xs : List V} (h : SqL K H a xs) (hx : flatV x = true) (hs : xs.all flatV = true) (k : Q (.bl (inV x xs)) H) : rInA K x (.ref a) H Q := .inr ⟨a, xs, rfl, .inl h, hx, hs, k⟩
theorem s_inT {x : V} {a : Addr} {xs : List V} (h : SqT K H a xs) (hx : flatV x = true) (hs : xs.all flatV = true) (k : Q (.bl (inV x xs)) H) : rInA K x (.ref a) H Q := .inr ⟨a, xs, rfl, .inr h, hx, hs, k⟩
theorem flat_strs (zs : List Str) : (zs.map V.str).all flatV = true := by
  rw [List.all_map]; exact List.all_eq_true.mpr fun _ _ => rfl
theorem inV_strs (z : Str) (zs : List Str) : inV (.str z) (zs.map V.str) = decide (z ∈ zs) := by
  unfold inV
  rw [List.any_map]
  by_cases h : z ∈ zs
  · rw [decide_eq_true h]
    exact List.any_eq_true.mpr ⟨z, h, by show (z == z) = true; simp⟩
  · rw [decide_eq_false h]
    refine List.any_eq_false.mpr fun y hy => ?_
    show ¬ (y == z) = true
    intro e
    have : y = z := by simpa using e
    exact h (this ▸ hy)
theorem s_sfld {ta tv : TE} {f : Str} {D : Ends} (k : tv σ H fun y H1 => ta σ H1 fun x H2 => ∃ a C dx fs, x = .ref a ∧ H2 a = some (.ins C dx fs) ∧ Cls K C ∧ NoAttr K C f ∧ fs.length < 1000 ∧ D.nx σ (upd H2 a (.ins C dx (putF f y fs)))) : sFld K ta tv f D σ H := k
theorem tg_mono {n : Nat} {t : TGs} (h : ∀ (xs : List V) (σ : L2.St) (H : Hp) (P P' : L2.St → Hp → Prop), (∀ s h, P s h → P' s h) → t xs σ H P → t xs σ H P') : ∀ x σ1 H' (P P' : L2.St → Hp → Prop), (∀ s h, P s h → P' s h) → gTA K n t x σ1 H' P → gTA K n t x σ1 H' P' := by
  rintro x σ1 H' P P' m (⟨a, xs, e, q, l, k⟩ | ⟨a, xs, e, q, l, k⟩)
  · exact .inl ⟨a, xs, e, q, l, h _ _ _ _ _ m k⟩
  · exact .inr ⟨a, xs, e, q, l, h _ _ _ _ _ m k⟩
theorem tgc_mono {i : Nat} {t : TGs} (h : ∀ (xs : List V) (σ : L2.St) (H : Hp) (P P' : L2.St → Hp → Prop), (∀ s h, P s h → P' s h) → t xs σ H P → t xs σ H P') : ∀ (xs : List V) (σ : L2.St) (H : Hp) (P P' : L2.St → Hp → Prop), (∀ s h, P s h → P' s h) → gCons (gName i) t xs σ H P → gCons (gName i) t xs σ H P' := by
  rintro xs σ H P P' m ⟨v, r, e, k⟩
  exact ⟨v, r, e, h _ _ _ _ _ m k⟩
theorem tgn_mono : ∀ (xs : List V) (σ : L2.St) (H : Hp) (P P' : L2.St → Hp → Prop), (∀ s h, P s h → P' s h) → gNil xs σ H P → gNil xs σ H P' := fun _ _ _ _ _ m k => ⟨k.1, m _ _ k.2⟩
/-- the things at some addresses, one by one -/
def AllAt {α : Type} (R : Addr → α → Hp → Prop) (H : Hp) (as : List Addr) (xs : List α) : Prop := as.length = xs.length ∧ ∀ (i : Nat) a x, as[i]? = some a → xs[i]? = some x → R a x H
theorem AllAt.mono {α : Type} {R : Addr → α → Hp → Prop} {H H' : Hp} {as : List Addr} {xs : List α} (h : AllAt R H as xs) (m : ∀ a x, R a x H → R a x H') : AllAt R H' as xs := ⟨h.1, fun i a x e1 e2 => m a x (h.2 i a x e1 e2)⟩
theorem AllAt.get {α : Type} {R : Addr → α → Hp → Prop} {H : Hp} {as : List Addr} {xs : List α} (h : AllAt R H as xs) {i : Nat} {v : V} (e : (as.map V.ref)[i]? = some v) : ∃ a x, as[i]? = some a ∧ v = .ref a ∧ xs[i]? = some x ∧ R a x H := by
  rw [List.getElem?_map] at e
  cases q : as[i]? with
  | none => rw [q] at e; cases e
  | some a =>
    rw [q] at e
    have hi : i < xs.length := by rw [← h.1]; exact (List.getElem?_eq_some_iff.mp q).1
    exact ⟨a, xs[i], rfl, (Option.some.inj e).symm, List.getElem?_eq_getElem hi, h.2 i a _ q (List.getElem?_eq_getElem hi)⟩
/-- from the values of a new list to addresses -/
theorem allAt_of {α : Type} {R : Addr → α → Hp → Prop} {H : Hp} {ys : List V} {xs : List α} (hl : ys.length = xs.length) (h : ∀ (i : Nat) y, ys[i]? = some y → ∃ a x, y = .ref a ∧ xs[i]? = some x ∧ R a x H) : ∃ as : List Addr, ys = as.map V.ref ∧ AllAt R H as xs := by
  refine ⟨ys.map fun y => match y with | .ref a => a | _ => 0, ?_, by rw [List.length_map]; exact hl, fun i a x e1 e2 => ?_⟩
  · apply List.ext_getElem?
    intro i
    rw [List.map_map, List.getElem?_map]
    cases e : ys[i]? with
    | none => rfl
    | some y => obtain ⟨a, x, rfl, _⟩ := h i y e; rfl
  · rw [List.getElem?_map] at e1
    cases e : ys[i]? with
    | none => rw [e] at e1; cases e1
    | some y =>
      obtain ⟨b, x', rfl, e3, r⟩ := h i y e
      rw [e] at e1
      cases e1
      rw [e3] at e2; cases e2
      exact r
theorem findSome_at {α β : Type} {f : α → Option β} : ∀ {l : List α} {i : Nat} {x : α} {r : β}, (∀ j y, j < i → l[j]? = some y → f y = none) → l[i]? = some x → f x = some r → l.findSome? f = some r
  | [], i, x, r, _, h, _ => by simp at h
  | y :: l, 0, x, r, _, h, hr => by
    have e : y = x := by simpa using h
    subst e
    simp [List.findSome?, hr]
  | y :: l, i + 1, x, r, hb, h, hr => by
    rw [List.findSome?_cons, hb 0 y (Nat.succ_pos _) rfl]
    exact findSome_at (fun j z hj e => hb (j + 1) z (Nat.succ_lt_succ hj) e) h hr
theorem findSome_no {α β : Type} {f : α → Option β} {l : List α} (h : ∀ (j : Nat) y, l[j]? = some y → f y = none) : l.findSome? f = none := by
  refine List.findSome?_eq_none_iff.mpr fun x hx => ?_
  obtain ⟨j, hj, e⟩ := List.mem_iff_getElem.mp hx
  exact h j x (by rw [List.getElem?_eq_getElem hj, e])
/-- a comprehension of two clauses over nothing -/
theorem s_lc2n {wi : TI} {g : TG} {tt : TT} {wi1 : TI} {g1 : TG} {tt1 : TT} {te : TE} {vs vs1 : List Nat} (k : wi σ H fun J H1 => ∃ S, Still J H1 0 S ∧ ∀ D, H1 D = none → Q (.ref D) (upd H1 D (.lst []))) (hw : ∀ (R R' : It → Hp → Prop), (∀ J H, R J H → R' J H) → wi σ H R → wi σ H R') : tLc2 wi g tt wi1 g1 tt1 te vs vs1 σ H Q := by
  refine hw _ _ (fun J H1 hh => ?_) k
  obtain ⟨S, T, k⟩ := hh
  exact fun D hD => ⟨fun i m H' => i = 0 ∧ H' = upd H1 D (.lst []), ⟨0, rfl, rfl⟩, fun i m H' h => by
    obtain ⟨rfl, rfl⟩ := h
    exact .inl ⟨T.st _ (same_new hD), k D hD⟩⟩
theorem iA_mono {te : TE} (ht : ∀ (R R' : V → Hp → Prop), (∀ v h, R v h → R' v h) → te σ H R → te σ H R') (R R' : It → Hp → Prop) (m : ∀ J H, R J H → R' J H) : iA K te σ H R → iA K te σ H R' := by
  rintro (h | h | h)
  · exact .inl (ht _ _ (fun v h' ⟨a, e, q, r⟩ => ⟨a, e, q, m _ _ r⟩) h)
  · exact .inr (.inl (ht _ _ (fun v h' ⟨a, e, q, r⟩ => ⟨a, e, q, m _ _ r⟩) h))
  · exact .inr (.inr (ht _ _ (fun v h' ⟨x, e, r⟩ => ⟨x, e, m _ _ r⟩) h))
theorem var_mono {i : Nat} (R R' : V → Hp → Prop) (m : ∀ v h, R v h → R' v h) : tVar i σ H R → tVar i σ H R' := fun ⟨v, e, r⟩ => ⟨v, e, m _ _ r⟩
theorem fld_mono {i : Nat} {f : Str} (R R' : V → Hp → Prop) (m : ∀ v h, R v h → R' v h) : tFld K (tVar i) f σ H R → tFld K (tVar i) f σ H R' := fun ⟨v, e, a, C, dx, fs, u, h1, h2, h3, h4, h5, r⟩ => ⟨v, e, a, C, dx, fs, u, h1, h2, h3, h4, h5, m _ _ r⟩
theorem lc_nil {J : It} {g : TG} {te : TE} {vs : List Nat} {H1 : Hp} {S : Nat → V → Hp → Prop} (T : Still J H1 0 S) (k : ∀ D, H1 D = none → Q (.ref D) (upd H1 D (.lst []))) : LcW J g te vs σ H1 Q := fun D hD =>
  ⟨fun i m H' => i = 0 ∧ H' = upd H1 D (.lst []), ⟨0, rfl, rfl⟩, fun i m H' h => by
    obtain ⟨rfl, rfl⟩ := h
    exact .inl ⟨T.st _ (same_new hD), k D hD⟩⟩
theorem s_ckw {r : List V → List V → Hp → VK → Prop} {t tk : TA} (k : t σ H fun vs H1 => tk σ H1 fun zs H2 => r vs zs H2 Q) : tCKw r t tk σ H Q := k
theorem s_maxD {a : Addr} {ns : List Int} {d : Int} (h : SqL K H a (ns.map V.int)) (k0 : ns = [] → Q (.int d) H) (k : ∀ m, ns ≠ [] → m ∈ ns → (∀ y, y ∈ ns → y ≤ m) → Q (.int m) H) : rMaxD K [.ref a] [.int d] H Q := ⟨a, ns, d, rfl, rfl, h, k0, k⟩
theorem s_gsub {to ti : TE} {t : TSet} {v : V} {P : L2.St → Hp → Prop} (k : to σ H fun o H1 => ti σ H1 fun i H2 => t o i v H2 fun H3 => P σ H3) : gSub to ti t v σ H P := k
theorem s_setL {a : Addr} {xs : List V} {j : Nat} {v : V} {R : Hp → Prop} (h : H a = some (.lst xs)) (hj : j < xs.length) (q : R (upd H a (.lst (xs.set j v)))) : rSetL (.ref a) (.int (j : Int)) v H R := ⟨a, xs, j, j, rfl, rfl, h, by
  unfold ixN
  rw [if_pos (by omega), if_pos (by omega)]
  simp, q⟩
theorem atI_ex {α : Type} {xs : List α} {i : Int} (h0 : 0 ≤ i) (h1 : i < xs.length) : ∃ v, atI xs i = some v := by
  obtain ⟨j, rfl⟩ : ∃ j : Nat, i = (j : Int) := ⟨i.toNat, by omega⟩
  exact ⟨xs[j], atI_nat (List.getElem?_eq_getElem (by omega))⟩
theorem s_rng1 {ta : TA} {R : It → Hp → Prop} (k : ta σ H fun vs H1 => ∃ j : Int, vs = [.int j] ∧ -(2 ^ 62) ≤ j ∧ j < 2 ^ 62 ∧ R (Itr 0 j.toNat) H1) : iRng1 ta σ H R := k
theorem s_absI {i : Int} (k : Q (.int (if i < 0 then -i else i)) H) : ∃ j, [V.int i] = [.int j] ∧ Q (.int (if j < 0 then -j else j)) H := ⟨i, rfl, k⟩
theorem s_intB {b : Bool} (k : Q (.int (if b then 1 else 0)) H) : (∃ i, [V.bl b] = [.int i] ∧ Q (.int i) H) ∨ ∃ k, [V.bl b] = [.bl k] ∧ Q (.int (if k then 1 else 0)) H := .inr ⟨b, rfl, k⟩
theorem s_intI {i : Int} (k : Q (.int i) H) : (∃ j, [V.int i] = [.int j] ∧ Q (.int j) H) ∨ ∃ k, [V.int i] = [.bl k] ∧ Q (.int (if k then 1 else 0)) H := .inl ⟨i, rfl, k⟩
/-- all but one object stand as they were -/
def But (s : Addr) (H H' : Hp) : Prop := ∀ b o, H b = some o → b ≠ s → H' b = some o
theorem But.refl {s : Addr} {H : Hp} : But s H H := fun _ _ e _ => e
theorem But.trans {s : Addr} {H H1 H2 : Hp} (a : But s H H1) (b : But s H1 H2) : But s H H2 := fun x o e n => b x o (a x o e n) n
theorem But.of {s : Addr} {H H' : Hp} (a : Same H H') : But s H H' := fun x o e _ => a x o e
theorem But.upd {s : Addr} {H : Hp} {o : HO} : But s H (upd H s o) := fun x u e n => by rw [upd_ne n]; exact e
theorem But.same {s : Addr} {H H1 H' : Hp} (a : Same H H1) (hs : H s = none) (b : But s H1 H') : Same H H' := fun x o e => b x o (a x o e) (ne_of_none e hs)
theorem new_facts {H H' : Hp} {p : Addr} {o : HO} (e : upd H p o = H') (hp : H p = none) : Same H H' ∧ H' p = some o := e ▸ ⟨same_new hp, upd_same⟩
theorem made_facts {H H' : Hp} {x dx C : Addr} (e : upd (upd H dx (.own x)) x (.ins C dx []) = H') (nx : H x = none) (nd : H dx = none) (ne : dx ≠ x) : Same H H' ∧ H' x = some (.ins C dx []) := e ▸ ⟨(same_new nd).trans (same_new (by rw [upd_ne ne.symm]; exact nx)), upd_same⟩
theorem s_meth {C : Addr} {m : Str} {sp : Sp} {E : L2.St → XK} {ta : TE} {t : TA} (k : ta σ H fun x H1 => ∃ a dx fs, x = .ref a ∧ H1 a = some (.ins C dx fs) ∧ fs.lookup m = none ∧ t σ H1 fun vs H2 => sp (x :: vs) H2 Q (E σ)) : tMethS C m sp E ta t σ H Q := k
theorem s_make {C : Addr} {sp : Sp} {E : L2.St → XK} {t : TA} (k : t σ H fun vs H1 => ∀ x dx, H1 x = none → H1 dx = none → dx ≠ x → sp (.ref x :: vs) (upd (upd H1 dx (.own x)) x (.ins C dx [])) (fun v H2 => v = .non ∧ Q (.ref x) H2) (E σ)) : tMakeS C sp E t σ H Q := k
end
/-! ### == and != by an own __eq__ that tells either answer -/
theorem ifBound_ne {M : Model} {A : Around} {E : Value → Shared → Prop} {s : Shared} {K : PySem.W.Frag} {x C : Addr} {ox : Obj} {od : Option Obj} {args : List Value} {Q : Option Value → Shared → Prop}
    (X : K.In s.heap) (I : PySem.W.InstAt s.heap x ox C od) (hs : PySem.W.findIn K (.ref C) "__ne__" = some (some (.builtin "object.__ne__"))) (h : wpAny M A (call (.builtin "object.__ne__") (.ref x :: args)) (fun v => Q (some v)) E s) :
    wpAny M A (callSpecialIfBound? (.ref x) "__ne__" args) Q E s := by
  have fin := wpAny_bind (f := fun v => pure (some v)) (wpAny_mono h (fun v s' h' => wpAny_pure h') fun _ _ h' => h')
  refine wpAny_holding (wpAny_bind (wpAny_bind (wpAny_bind (PySem.W.Looks.here I.type (PySem.W.Looks.here (PySem.W.looks_findIn X hs) (wpAny_bind (wpAny_askSetting (wpAny_ite ?_))))))))
  split
  · exact wpAny_bind (wpAny_of_eq (F.cmp_object.ne.bind (Value.ref x)) (wpAny_pure fin))
  · exact wpAny_tryCatch (wpAny_bind (wpAny_of_eq (F.cmp_object.ne.bind (Value.ref x)) (wpAny_pure fin)))
theorem call_ne {prog : Program} {w : World} {A : Around} {E : Value → Shared → Prop} {s : Shared} {K : PySem.W.Frag} {x C f : Addr} {ox : Obj} {od : Option Obj} {b : Value} {Q : Value → Shared → Prop}
    (hu : A.units + 1 < cLine) (X : K.In s.heap) (I : PySem.W.InstAt s.heap x ox C od) (hm : PySem.W.mroIn K C (.type "object") = some true) (he : PySem.W.findIn K (.ref C) "__eq__" = some (some (.ref f))) (hf : PySem.W.isFn K (.ref f) = true)
    (h : wpAny (model prog w) A.in1 (call (.ref f) [.ref x, b]) (fun v s' => ∃ c, v = .bool c ∧ Q (.bool !c) s') E s) :
    wpAny (model prog w) A (call (.builtin "object.__ne__") [.ref x, b]) Q E s := by
  refine wpAny_call (codeAny_call_builtin F.cmp_object.ne.plain F.cmpEntry_ne ?_)
  refine PySem.W.check_slot F.cmpKind_ne F.cmpSplit_ne ?_ (F.cmpArgs_ne _ _) ?_
  · exact PySem.W.Looks.andThen I.type (PySem.W.looks_mroIn X hm)
  · show wpAny _ _ (Builtin.«object.__ne__» _) _ _ _
    unfold Builtin.«object.__ne__»
    refine wpAny_bind ?_
    refine wpAny_pure ?_
    refine wpAny_bind (wpAny_cRoomFor hu ?_)
    refine wpAny_bind (PySem.W.ifBound_K X I he hf (wpAny_mono h (fun v s' h' => ?_) fun _ _ q => q))
    obtain ⟨c, rfl, q⟩ := h'
    exact wpAny_bind (wpAny_truthy_bool (wpAny_pure q))
theorem rc_ne {prog : Program} {w : World} {A : Around} {E : Value → Shared → Prop} {s : Shared} {K : PySem.W.Frag} {x y C f : Addr} {ox oy : Obj} {od od' : Option Obj} {Q : Value → Shared → Prop}
    (hu : A.units + 1 < cLine) (X : K.In s.heap) (I : PySem.W.InstAt s.heap x ox C od) (J : PySem.W.InstAt s.heap y oy C od') (hm : PySem.W.mroIn K C (.type "object") = some true) (he : PySem.W.findIn K (.ref C) "__eq__" = some (some (.ref f))) (hs : PySem.W.findIn K (.ref C) "__ne__" = some (some (.builtin "object.__ne__"))) (hf : PySem.W.isFn K (.ref f) = true)
    (h : wpAny (model prog w) A.in1 (call (.ref f) [.ref x, .ref y]) (fun v s' => ∃ c, v = .bool c ∧ Q (.bool !c) s') E s) :
    wpAny (model prog w) A (richCompare .NotEq (.ref x) (.ref y)) Q E s := by
  unfold richCompare
  refine wpAny_holding (wpAny_bind (wpAny_cRoomFor (by omega) (wpAny_bind (PySem.W.Looks.here I.type (wpAny_bind (PySem.W.Looks.here J.type ?_))))))
  have e : ((Value.ref C != Value.ref C) = true) = False := by simp
  rw [if_neg (by simp)]
  refine wpAny_bind (wpAny_pure (wpAny_bind ?_))
  refine wpAny_bind (ifBound_ne X I hs (call_ne hu X I hm he hf (wpAny_mono h (fun v s' h' => ?_) fun _ _ q => q)))
  obtain ⟨c, rfl, q⟩ := h'
  exact ⟨c, rfl, wpAny_pure (wpAny_pure q)⟩
/-- a class's own __eq__ -/
structure OwnE (P : Program) (w : World) (K : PySem.W.Frag) (mg : Str → Option Value) (base : Heap) (CX : CXT) (k : Nat) (C : Addr) (sp : Sp) : Prop where
  ex : ∃ (f : Addr) (fd : FuncData) (ps : List Str), FnOk P w K mg base CX k f fd ps sp ∧ PySem.W.findIn K (.ref C) "__eq__" = some (some (.ref f)) ∧ PySem.W.isFn K (.ref f) = true ∧ Binds K fd ps [] ∧
    PySem.W.findIn K (.ref C) "__ne__" = some (some (.builtin "object.__ne__")) ∧ PySem.W.mroIn K C (.type "object") = some true ∧ PySem.W.notFirst K C (.type "str") = true
def spB (sp : Sp) (E : XK) (x y : V) (H : Hp) (Q : Bool → Hp → Prop) : Prop := sp [x, y] H (fun v H' => ∃ b, v = .bl b ∧ Q b H') E
def rOwnEq (C : Addr) (sp : Sp) (E : XK) : R2 := fun x y H Q => ∃ a dx fs, x = .ref a ∧ H a = some (.ins C dx fs) ∧ ((∃ z, y = .str z) ∨ ∃ b dy gs, y = .ref b ∧ H b = some (.ins C dy gs)) ∧ spB sp E x y H fun b H' => Q (.bl b) H'
def rOwnNe (C : Addr) (sp : Sp) (E : XK) : R2 := fun x y H Q => ∃ a dx fs b dy gs, x = .ref a ∧ H a = some (.ins C dx fs) ∧ y = .ref b ∧ H b = some (.ins C dy gs) ∧ spB sp E x y H fun b H' => Q (.bl (!b)) H'
/-- the call of an own __eq__ from within -/
theorem run_own {X : Cx} {CX : CXT} {n : Nat} {f : Addr} {fd : FuncData} {ps : List Str} {sp : Sp} {E : XK} {A : Around} {pins : List (Addr × Obj)} {s : Shared} {σ : L2.St} {H : Hp} {x y : V} {u v : Value} {Q : Bool → Hp → Prop}
    (F : FnOk X.prog X.w X.K X.mg X.base CX n f fd ps sp) (hb : Binds X.K fd ps []) (hx : Passes CX X E) (hr : Room n A) (hf : A.frames = X.A.frames) (I : L2.Inv X pins σ H s) (rx : RelV x u) (ry : RelV y v) (h : spB sp E x y H Q) :
    wpAny (model X.prog X.w) A (call (.ref f) [u, v]) (fun r s' => ∃ c, r = .bool c ∧ ∃ H', L2.Inv X pins σ H' s' ∧ Q c H') X.xe s := by
  have e := I.env0
  have e0 : Env0 X.prog X.w X.K X.mg X.base A X.stack s H := ⟨by rw [hf]; exact e.frames, e.mod, e.bs, e.bsz, e.funs, e.frf, e.hok, e.bare⟩
  have hl := F.len _ _ _ _ h
  have b := hb s [u, v] I.kIn (by simpa using hl)
  rw [List.append_nil] at b
  refine wpAny_call (codeAny_mono (F.run A X.stack s H { pos := [u, v] } [u, v] [x, y] _ E hr e0 b (.cons rx (.cons ry .nil)) h) ?_)
  intro r s' q
  match r, q with
  | .ok (.ret z), q =>
    obtain ⟨v', H', I', rv, c, rfl, qq⟩ := I.after q
    exact ⟨c, rv, H', I', qq⟩
  | .error e, q => exact hx pins σ H s e s' I q
theorem op_ownEq {X : Cx} {n j : Nat} {C : Addr} {sp : Sp} {E : XK} (c : OwnE X.prog X.w X.K X.mg X.base CX0 n C sp) (hr : Room j X.A) (hk : n ≤ j) : OpR X (compareOp .Eq) (rOwnEq C sp E) := by
  intro pins s σ H x y v u Q I rx ry h
  obtain ⟨f, fd, ps, F, hs, hf, hb, hs', hm, hn⟩ := c.ex
  obtain ⟨a, dx, fs, rfl, ha, hy, h⟩ := h
  have hr' := hr.mono hk
  cases rx
  obtain ⟨mA, J, _⟩ := ins_get I.hok ha
  obtain ⟨od, J, _⟩ := J.look
  obtain ⟨m, hF⟩ := I.fr
  have fin := wpAny_mono (run_own (CX := CX0) F hb (fun _ _ _ _ _ _ _ h => h.elim) hr' rfl I (x := .ref a) rfl ry h) (Q' := PySem.W.CmpBack (EP X pins σ Q)) (fun r s' ⟨c, e, H', I', q⟩ => by subst e; exact ⟨.bl c, H', I', rfl, q⟩) fun _ _ q => q
  rcases hy with ⟨z, rfl⟩ | ⟨b, dy, gs, rfl, hb'⟩
  · obtain ⟨t, rfl⟩ := ry
    exact PySem.W.cmp_ofEq (PySem.W.cmp_K hr.units0 hF I.ok.mod.kin J (tb := .type "str") (fun _ _ _ _ _ q => wpAny_pure q) hn hs hf fin)
  · cases ry
    obtain ⟨mB, J', _⟩ := ins_get I.hok hb'
    obtain ⟨od', J', _⟩ := J'.look
    exact PySem.W.cmp_ofEq (PySem.W.cmp_K hr.units0 hF I.ok.mod.kin J J'.type (by simp [PySem.W.notFirst]) hs hf fin)
theorem op_ownNe {X : Cx} {n j : Nat} {C : Addr} {sp : Sp} {E : XK} (c : OwnE X.prog X.w X.K X.mg X.base CX0 n C sp) (hr : Room j X.A) (hk : n + 1 ≤ j) : OpR X (compareOp .NotEq) (rOwnNe C sp E) := by
  intro pins s σ H x y v u Q I rx ry h
  obtain ⟨f, fd, ps, F, hs, hf, hb, hs', hm, hn⟩ := c.ex
  obtain ⟨a, dx, fs, b, dy, gs, rfl, ha, rfl, hb', h⟩ := h
  have hr' := hr.mono hk
  cases rx
  cases ry
  obtain ⟨mA, J, _⟩ := ins_get I.hok ha
  obtain ⟨od, J, _⟩ := J.look
  obtain ⟨mB, J', _⟩ := ins_get I.hok hb'
  obtain ⟨od', J', _⟩ := J'.look
  have sb : L2.Sub X (n + 1) X.A := ⟨hr', rfl⟩
  refine PySem.W.cmp_ofNotEq (rc_ne (by have := hr.un; omega) I.kIn J J' hm hs hs' hf ?_)
  exact wpAny_mono (run_own (CX := CX0) F hb (fun _ _ _ _ _ _ _ h => h.elim) sb.in1.room sb.in1.fr I (x := .ref a) (y := .ref b) rfl rfl h) (fun r s' ⟨c, e, H', I', q⟩ => ⟨c, e, .bl (!c), H', I', rfl, q⟩) fun _ _ q => q
theorem oIsi {X : Cx} (K : PySem.W.Frag) (h : X.K = K := by rfl) : CallR X (.builtin "isinstance") (rIsi K) := h ▸ call_isi
/-! ### making an object of a class without an own __init__ -/
structure Mk0 (K : PySem.W.Frag) (C : Addr) : Prop where
  makes : PySem.W.makesIn K C = true
  init : PySem.W.findIn K (.ref C) "__init__" = some (Option.some (Value.builtin "object.__init__"))
  kp : PySem.W.keepIn K (.ref C) = true
  mro : PySem.W.mroIn K C (.type "object") = some true
def tMk0 (C : Addr) : TE := fun _ H Q => ∀ x dx, H x = none → H dx = none → dx ≠ x → Q (.ref x) (upd (upd H dx (.own x)) x (.ins C dx []))
theorem run_mk0 {X : Cx} {C : Addr} {pins : List (Addr × Obj)} {σ : L2.St} {H : Hp} {s : Shared} {Q : VK} (M : Mk0 X.K C) (I : L2.Inv X pins σ H s) (h : tMk0 C σ H Q) :
    wpAny (model X.prog X.w) X.A (call (.ref C) []) (EP X pins σ Q) X.xe s := by
  have I2 := Inv.made (C := C) I
  have hq := h (s.heap.objs.size + 1) s.heap.objs.size (HOk.fresh I.hok (Nat.le_succ _)) (HOk.fresh I.hok (Nat.le_refl _)) (Nat.ne_of_lt (Nat.lt_succ_self _))
  obtain ⟨mA, J, _⟩ := ins_get I2.hok upd_same
  obtain ⟨od, J, _⟩ := J.look
  refine wpAny_call (make_map0 I.kIn M.makes M.init (fun self => PySem.W.Looks.of_pure (PySem.W.oi_bind self)) ?_)
  refine codeAny_call_builtin PySem.W.oi_plain PySem.W.entry_oi (PySem.W.check_slot PySem.W.oi_kind PySem.W.oi_split (PySem.W.Looks.andThen J.type (PySem.W.looks_mroIn I2.kIn M.mro)) (PySem.W.oi_args _) ?_)
  rw [PySem.W.oi_run]
  exact wpAny_pure ⟨rfl, .ref _, _, I2, rfl, hq⟩
theorem pe_mk0 {X : Cx} {C : Addr} {x : Str} {p pos : Pos} (M : Mk0 X.K C) (hg : Gl X x) (hm : X.mg x = some (.ref C)) (hdb : NotDbg x := by decide) : PE X (.Call (.Name x p) [] [] pos) (tMk0 C) :=
  ⟨fun pins s σ H Q I h => wpAny_Call_Name_kw (ld_glob I hg hm (PySem.W.callWith_K0 I.kIn M.kp (run_mk0 M I h)) hdb)⟩
/-! ### a comprehension of two clauses, without tests: the second one's things, one after another -/
def Lc2W (J : It) (g : TG) (wi1 : TI) (g1 : TG) (te : TE) (vs vs1 : List Nat) (σ : L2.St) (H1 : Hp) (Q : VK) : Prop :=
  ∀ D, H1 D = none → ∃ W : Nat → Nat → Hp → Prop, (∃ m, W 0 m (upd H1 D (.lst []))) ∧ ∀ i m H, W i m H → (J.stop i H ∧ Q (.ref D) H) ∨ (J.go i H ∧ ∃ Nx : Hp → Prop, (∀ H', Nx H' → ∃ m', m' < m ∧ W (i + 1) m' H') ∧
    ∀ x H', J.yld i H x H' → g x (wipe σ vs) H' fun σ2 H2 => wipe σ2 vs = wipe σ vs ∧ tYes σ2 H2 fun b H3 => if b = true then wi1 σ2 H3 fun J1 H4 => ∃ W1 : Nat → Nat → Hp → Prop, (∃ m, W1 0 m H4) ∧ ∀ j k H, W1 j k H → (J1.stop j H ∧ Nx H) ∨ (J1.go j H ∧ ∃ Nx1 : Hp → Prop, (∀ H', Nx1 H' → ∃ k', k' < k ∧ W1 (j + 1) k' H') ∧
      ∀ x H', J1.yld j H x H' → g1 x (wipe σ2 vs1) H' fun σ3 H5 => wipe σ3 vs1 = wipe σ2 vs1 ∧ tYes σ3 H5 fun b H6 => if b = true then te σ3 H6 fun y H7 => ∃ acc, H7 D = some (.lst acc) ∧ acc.length < sizeLine ∧ Nx1 (upd H7 D (.lst (acc ++ [y]))) else Nx1 H6) else Nx H3)
theorem s_lc2 {wi : TI} {g : TG} {wi1 : TI} {g1 : TG} {te : TE} {vs vs1 : List Nat} {σ : L2.St} {H : Hp} {Q : VK} (k : wi σ H fun J H1 => Lc2W J g wi1 g1 te vs vs1 σ H1 Q) : tLc2 wi g tYes wi1 g1 tYes te vs vs1 σ H Q := k
theorem flat_succ {α : Type} (F : Nat → List α) (i : Nat) : (List.range (i + 1)).flatMap F = (List.range i).flatMap F ++ F i := by
  rw [List.range_succ, List.flatMap_append]; simp
theorem flat_le {α : Type} (F : Nat → List α) {i n : Nat} (h : i ≤ n) : ((List.range i).flatMap F).length ≤ ((List.range n).flatMap F).length := by
  induction h with
  | refl => exact Nat.le_refl _
  | step _ ih => rw [flat_succ, List.length_append]; omega
theorem lc2_flat {J : It} {g : TG} {wi1 : TI} {g1 : TG} {te : TE} {vs vs1 : List Nat} {σ : L2.St} {H1 : Hp} {Q : VK} {n : Nat} {S : Nat → V → Hp → Prop} (T : Still J H1 n S) (F : Nat → List V) (hn : ((List.range n).flatMap F).length ≤ 100000)
    (hi : ∀ x σ2 H' (Q' : VK), wipe σ2 vs = wipe σ vs → Q' x H' → g1 x (wipe σ2 vs1) H' fun σ3 H5 => wipe σ3 vs1 = wipe σ2 vs1 ∧ te σ3 H5 Q')
    (hs : ∀ D i x H', H1 D = none → (∃ ys, H' D = some (.lst ys)) → i < n → S i x H' → Same H1 H' → ∀ R : L2.St → It → Hp → Prop, (∀ σ2 J1 H4 H5 S1, wipe σ2 vs = wipe σ vs → Same H' H4 → H5 D = none → Same H5 H4 → Still J1 H5 (F i).length S1 → (∀ j x H, S1 j x H → (F i)[j]? = some x) → R σ2 J1 H4) → g x (wipe σ vs) H' fun σ2 H2 => wipe σ2 vs = wipe σ vs ∧ wi1 σ2 H2 (R σ2))
    (k : ∀ D H', H1 D = none → Same H1 H' → H' D = some (.lst ((List.range n).flatMap F)) → Q (.ref D) H')
    (hg : ∀ x σ1 H' (P P' : L2.St → Hp → Prop), (∀ s h, P s h → P' s h) → g x σ1 H' P → g x σ1 H' P')
    (hg1 : ∀ x σ1 H' (P P' : L2.St → Hp → Prop), (∀ s h, P s h → P' s h) → g1 x σ1 H' P → g1 x σ1 H' P') : Lc2W J g wi1 g1 te vs vs1 σ H1 Q := by
  intro D hD
  refine ⟨fun i m H => m = n - i ∧ i ≤ n ∧ Same H1 H ∧ H D = some (.lst ((List.range i).flatMap F)), ⟨n, rfl, Nat.zero_le _, same_new hD, upd_same⟩, ?_⟩
  rintro i m H ⟨rfl, hle, s, hy⟩
  by_cases hlt : i < n
  · refine .inr ⟨T.go i H s hlt, fun H' => i + 1 ≤ n ∧ Same H1 H' ∧ H' D = some (.lst ((List.range (i + 1)).flatMap F)), fun H' p => ⟨n - (i + 1), by omega, rfl, p⟩, fun x H' yl => ?_⟩
    obtain ⟨sx, hS⟩ := T.yl i x H H' s hlt yl
    have hy' := sx _ _ hy
    refine hg _ _ _ _ _ (fun s2 h2 z => And.intro z.1 (tyes_to z.2)) (hs D i x H' hD ⟨_, hy'⟩ hlt hS (s.trans sx) _ fun σ2 J1 H4 H5 S1 ew s4 h5 s5 T1 hF => ?_)
    refine ⟨fun j k H => k = (F i).length - j ∧ j ≤ (F i).length ∧ Same H5 H ∧ Same H1 H ∧ H D = some (.lst ((List.range i).flatMap F ++ (F i).take j)), ⟨_, rfl, Nat.zero_le _, s5, (s.trans sx).trans s4, by rw [List.take_zero, List.append_nil]; exact s4 _ _ hy'⟩, ?_⟩
    rintro j k H6 ⟨rfl, hj, s6, s16, h6⟩
    by_cases hlt1 : j < (F i).length
    · refine .inr ⟨T1.go j H6 s6 hlt1, fun H' => j + 1 ≤ (F i).length ∧ Same H5 H' ∧ Same H1 H' ∧ H' D = some (.lst ((List.range i).flatMap F ++ (F i).take (j + 1))), fun H' p => ⟨(F i).length - (j + 1), by omega, rfl, p⟩, fun y H7 yl1 => ?_⟩
      obtain ⟨sy, hS1⟩ := T1.yl j y H6 H7 s6 hlt1 yl1
      have ey := hF j y H7 hS1
      have q := sy _ _ h6
      have bound : ((List.range i).flatMap F ++ (F i).take j).length < sizeLine := by
        have := flat_le F hlt
        rw [flat_succ, List.length_append] at this
        rw [List.length_append, List.length_take]
        exact line_lt (by omega)
      have fin : j + 1 ≤ (F i).length ∧ Same H5 (upd H7 D (.lst (((List.range i).flatMap F ++ (F i).take j) ++ [y]))) ∧ Same H1 (upd H7 D (.lst (((List.range i).flatMap F ++ (F i).take j) ++ [y]))) ∧ upd H7 D (.lst (((List.range i).flatMap F ++ (F i).take j) ++ [y])) D = some (.lst ((List.range i).flatMap F ++ (F i).take (j + 1))) :=
        ⟨hlt1, same_mut (s6.trans sy) h5, same_mut (s16.trans sy) hD, by rw [upd_same, List.take_add_one, ey, List.append_assoc]; rfl⟩
      exact hg1 _ _ _ _ _ (fun s3 h3 z => And.intro z.1 (tyes_to z.2)) (hi y σ2 H7 _ ew ⟨_, q, bound, fin⟩)
    · have ej : j = (F i).length := by omega
      subst ej
      rw [List.take_length] at h6
      exact .inl ⟨T1.st H6 s6, hlt, s16, by rw [flat_succ]; exact h6⟩
  · have ei : i = n := by omega
    subst ei
    exact .inl ⟨T.st H s, k D H hD s hy⟩
theorem s_mk0 {C : Addr} {σ : L2.St} {H : Hp} {Q : VK} (k : ∀ x dx, H x = none → H dx = none → dx ≠ x → Q (.ref x) (upd (upd H dx (.own x)) x (.ins C dx []))) : tMk0 C σ H Q := k
/-! ### tuples of the very same things -/
def DSame : Eqv := fun x y _ => ∃ a, x = .ref a ∧ y = .ref a
theorem mon_same : Mon DSame := fun _ _ _ _ _ h => h
theorem eqG_same {X : Cx} : EqG X 0 DSame := by
  intro A pins s σ H x y u v sb I rx ry d
  obtain ⟨a, rfl, rfl⟩ := d
  cases rx
  cases ry
  exact SeqAt.EqAt.same (.ref a) X.prog X.w X.xe _ ⟨rfl, H, I, Ext.rfl'⟩
theorem oEqId {X : Cx} {j : Nat} (K : PySem.W.Frag) (hr : Room j X.A) (hj : 1 ≤ j) (h : X.K = K := by rfl) : OpR X (compareOp .Eq) (rEqG (DTup K DSame)) := h ▸ op_eqG (rcG_tup mon_same eqG_same) (hr.mono hj)
theorem s_eqId {K : PySem.W.Frag} {H : Hp} {Q : VK} {a b : Addr} {as : List Addr} (ha : SqT K H a (as.map V.ref)) (hb : SqT K H b (as.map V.ref)) (k : ∀ H', Same H H' → Q (.bl true) H') : rEqG (DTup K DSame) (.ref a) (.ref b) H Q := by
  refine ⟨⟨a, b, _, _, rfl, rfl, ha, hb, rfl, fun i x y e1 e2 => ?_⟩, fun H' e => k H' e⟩
  rw [e1] at e2; cases e2
  rw [List.getElem?_map] at e1
  cases q : as[i]? with
  | none => rw [q] at e1; cases e1
  | some z => rw [q] at e1; cases e1; exact ⟨z, rfl, rfl⟩
/-! ### a comprehension over a range whose things may change what stands -/
theorem lc_rng {lo : Int} {g : TG} {te : TE} {vs : List Nat} {σ : L2.St} {H1 : Hp} {Q : VK} {n : Nat} (I : Addr → Nat → List V → Hp → Prop) (hn : n ≤ 100000)
    (h0 : ∀ D, H1 D = none → I D 0 [] (upd H1 D (.lst [])))
    (hs : ∀ D i ys H', H1 D = none → i < n → H' D = some (.lst ys) → ys.length = i → I D i ys H' → ∀ Q' : VK, (∀ y H'', H'' D = some (.lst ys) → I D (i + 1) (ys ++ [y]) (upd H'' D (.lst (ys ++ [y]))) → Q' y H'') → g (.int (lo + i)) (wipe σ vs) H' fun σ2 H2 => wipe σ2 vs = wipe σ vs ∧ te σ2 H2 Q')
    (k : ∀ D ys H', H1 D = none → H' D = some (.lst ys) → ys.length = n → I D n ys H' → Q (.ref D) H')
    (hg : ∀ x σ1 H' (P P' : L2.St → Hp → Prop), (∀ s h, P s h → P' s h) → g x σ1 H' P → g x σ1 H' P') : LcW (Itr lo n) g te vs σ H1 Q := by
  intro D hD
  refine ⟨fun i m H => m = n - i ∧ i ≤ n ∧ ∃ ys, H D = some (.lst ys) ∧ ys.length = i ∧ I D i ys H, ⟨n, rfl, Nat.zero_le _, [], upd_same, rfl, h0 D hD⟩, ?_⟩
  rintro i m H ⟨rfl, hi, ys, hy, hl, hr⟩
  by_cases hlt : i < n
  · refine .inr ⟨hlt, fun H' => i + 1 ≤ n ∧ ∃ ys, H' D = some (.lst ys) ∧ ys.length = i + 1 ∧ I D (i + 1) ys H', fun H' p => ⟨n - (i + 1), by omega, rfl, p⟩, fun x H' yl => ?_⟩
    obtain ⟨e, ex⟩ := yl
    subst e ex
    refine hg _ _ _ _ _ (fun s2 h2 z => And.intro z.1 (tyes_to z.2)) (hs D i ys _ hD hlt hy hl hr _ fun y H'' e hy' => ?_)
    exact ⟨ys, e, Nat.lt_of_lt_of_le (by omega : ys.length < 100001) (by rw [sizeLine_eq]; decide), hlt, ys ++ [y], upd_same, by rw [List.length_append, hl]; rfl, hy'⟩
  · have ei : i = n := by omega
    subst ei
    exact .inl ⟨Nat.le_refl _, k D ys H hD hy hl hr⟩
/-! ### the text by places -/
def top (i : Nat) : Stmt := PySem.Challenge.pw_manyboard_k01_names_at_each_door.main.body.getD i (.Pass ⟨0, 0, 0, 0⟩)
abbrev s_BadCount_init : Stmt := inClass (top 3) 0
abbrev s_NoName_init : Stmt := inClass (top 4) 0
abbrev s_Twice_init : Stmt := inClass (top 5) 0
abbrev s_NoCell_init : Stmt := inClass (top 6) 0
abbrev s_is_name : Stmt := top 11
abbrev s_need_names : Stmt := top 12
abbrev s_need_once : Stmt := top 13
abbrev s_need_count : Stmt := top 14
abbrev s_Board_init : Stmt := inClass (top 16) 0
abbrev s_Board_cells : Stmt := inClass (top 16) 1
abbrev s_Board_values_of : Stmt := inClass (top 16) 2
abbrev s_need_values : Stmt := top 17
abbrev s_Write_init : Stmt := inClass (top 21) 0
abbrev s_Wait_init : Stmt := inClass (top 22) 0
abbrev s_Mark_init : Stmt := inClass (top 23) 0
abbrev s_If_init : Stmt := inClass (top 24) 0
abbrev s_While_init : Stmt := inClass (top 25) 0
abbrev s_Program_init : Stmt := inClass (top 26) 0
abbrev s_programs_within : Stmt := top 28
abbrev s_many_in : Stmt := top 29
abbrev s_depth_of : Stmt := top 30
abbrev s_l_state : Stmt := top 33
abbrev s_l_digit : Stmt := top 34
abbrev s_l_plain : Stmt := top 35
abbrev s_l_text : Stmt := top 36
abbrev s_l_is_name : Stmt := top 37
abbrev s_l_fields : Stmt := top 38
abbrev s_l_made : Stmt := top 39
abbrev s_l_found : Stmt := top 40
abbrev s_law : Stmt := top 41
theorem sc_BadCount_init : FnScope ["self", "what", "count"] ["self", "what", "count"] (defScope s_BadCount_init) := ⟨rfl, rfl, rfl, by decide +kernel, rfl, by decide +kernel, by decide +kernel⟩
theorem sc_NoName_init : FnScope ["self", "name"] ["self", "name"] (defScope s_NoName_init) := ⟨rfl, rfl, rfl, by decide +kernel, rfl, by decide +kernel, by decide +kernel⟩
theorem sc_Twice_init : FnScope ["self", "name"] ["self", "name"] (defScope s_Twice_init) := ⟨rfl, rfl, rfl, by decide +kernel, rfl, by decide +kernel, by decide +kernel⟩
theorem sc_NoCell_init : FnScope ["self", "name"] ["self", "name"] (defScope s_NoCell_init) := ⟨rfl, rfl, rfl, by decide +kernel, rfl, by decide +kernel, by decide +kernel⟩
theorem sc_is_name : FnScope ["text", "sign"] ["text"] (defScope s_is_name) := ⟨rfl, rfl, rfl, by decide +kernel, rfl, by decide +kernel, by decide +kernel⟩
theorem sc_need_names : FnScope ["texts", "text"] ["texts"] (defScope s_need_names) := ⟨rfl, rfl, rfl, by decide +kernel, rfl, by decide +kernel, by decide +kernel⟩
theorem sc_need_once : FnScope ["names", "place", "name"] ["names"] (defScope s_need_once) := ⟨rfl, rfl, rfl, by decide +kernel, rfl, by decide +kernel, by decide +kernel⟩
theorem sc_need_count : FnScope ["what", "count", "low", "high"] ["what", "count", "low", "high"] (defScope s_need_count) := ⟨rfl, rfl, rfl, by decide +kernel, rfl, by decide +kernel, by decide +kernel⟩
theorem sc_Board_init : FnScope ["self", "cells", "name", "values", "_"] ["self", "cells"] (defScope s_Board_init) := ⟨rfl, rfl, rfl, by decide +kernel, rfl, by decide +kernel, by decide +kernel⟩
theorem sc_Board_cells : FnScope ["self", "name", "_"] ["self"] (defScope s_Board_cells) := ⟨rfl, rfl, rfl, by decide +kernel, rfl, by decide +kernel, by decide +kernel⟩
theorem sc_Board_values_of : FnScope ["self", "cell", "name", "values"] ["self", "cell"] (defScope s_Board_values_of) := ⟨rfl, rfl, rfl, by decide +kernel, rfl, by decide +kernel, by decide +kernel⟩
theorem sc_need_values : FnScope ["values"] ["values"] (defScope s_need_values) := ⟨rfl, rfl, rfl, by decide +kernel, rfl, by decide +kernel, by decide +kernel⟩
theorem sc_Write_init : FnScope ["self", "cell", "value"] ["self", "cell", "value"] (defScope s_Write_init) := ⟨rfl, rfl, rfl, by decide +kernel, rfl, by decide +kernel, by decide +kernel⟩
theorem sc_Wait_init : FnScope ["self", "cell", "value"] ["self", "cell", "value"] (defScope s_Wait_init) := ⟨rfl, rfl, rfl, by decide +kernel, rfl, by decide +kernel, by decide +kernel⟩
theorem sc_Mark_init : FnScope ["self", "name"] ["self", "name"] (defScope s_Mark_init) := ⟨rfl, rfl, rfl, by decide +kernel, rfl, by decide +kernel, by decide +kernel⟩
theorem sc_If_init : FnScope ["self", "cell", "value", "yes", "no"] ["self", "cell", "value", "yes", "no"] (defScope s_If_init) := ⟨rfl, rfl, rfl, by decide +kernel, rfl, by decide +kernel, by decide +kernel⟩
theorem sc_While_init : FnScope ["self", "cell", "value", "body"] ["self", "cell", "value", "body"] (defScope s_While_init) := ⟨rfl, rfl, rfl, by decide +kernel, rfl, by decide +kernel, by decide +kernel⟩
theorem sc_Program_init : FnScope ["self", "statements"] ["self", "statements"] (defScope s_Program_init) := ⟨rfl, rfl, rfl, by decide +kernel, rfl, by decide +kernel, by decide +kernel⟩
theorem sc_programs_within : FnScope ["row", "statement", "program"] ["row"] (defScope s_programs_within) := ⟨rfl, rfl, rfl, by decide +kernel, rfl, by decide +kernel, by decide +kernel⟩
theorem sc_many_in : FnScope ["row", "program"] ["row"] (defScope s_many_in) := ⟨rfl, rfl, rfl, by decide +kernel, rfl, by decide +kernel, by decide +kernel⟩
theorem sc_depth_of : FnScope ["row", "program"] ["row"] (defScope s_depth_of) := ⟨rfl, rfl, rfl, by decide +kernel, rfl, by decide +kernel, by decide +kernel⟩
theorem sc_l_state : FnScope ["_law_cell"] ["_law_cell"] (defScope s_l_state) := ⟨rfl, rfl, rfl, by decide +kernel, rfl, by decide +kernel, by decide +kernel⟩
theorem sc_l_digit : FnScope ["_law_state_here", "_law_base", "_law_found_here", "_law_more"] ["_law_state_here", "_law_base"] (defScope s_l_digit) := ⟨rfl, rfl, rfl, by decide +kernel, rfl, by decide +kernel, by decide +kernel⟩
theorem sc_l_plain : FnScope ["_law_s", "_law_many", "_law_some", "_law_found_here", "_law_k"] ["_law_s", "_law_many"] (defScope s_l_plain) := ⟨rfl, rfl, rfl, by decide +kernel, rfl, by decide +kernel, by decide +kernel⟩
theorem sc_l_text : FnScope ["_law_s", "_law_kind", "_law_many", "_law_other", "_law_text_here", "_law_at"] ["_law_s"] (defScope s_l_text) := ⟨rfl, rfl, rfl, by decide +kernel, rfl, by decide +kernel, by decide +kernel⟩
theorem sc_l_is_name : FnScope ["_law_text_here", "_law_letters", "_law_sign"] ["_law_text_here"] (defScope s_l_is_name) := ⟨rfl, rfl, rfl, by decide +kernel, rfl, by decide +kernel, by decide +kernel⟩
theorem sc_l_fields : FnScope ["_law_one"] ["_law_one"] (defScope s_l_fields) := ⟨rfl, rfl, rfl, by decide +kernel, rfl, by decide +kernel, by decide +kernel⟩
theorem sc_l_made : FnScope ["_law_door", "_law_text_here", "_law_values"] ["_law_door", "_law_text_here"] (defScope s_l_made) := ⟨rfl, rfl, rfl, by decide +kernel, rfl, by decide +kernel, by decide +kernel⟩
theorem sc_l_found : FnScope ["_law_door", "_law_text_here", "_law_found_here", "e"] ["_law_door", "_law_text_here"] (defScope s_l_found) := ⟨rfl, rfl, rfl, by decide +kernel, rfl, by decide +kernel, by decide +kernel⟩
theorem sc_law : FnScope ["_law_script", "_law_cell", "_law_s", "_law_door", "_law_text_here", "_law_due"] ["_law_script"] (defScope s_law) := ⟨rfl, rfl, rfl, by decide +kernel, rfl, by decide +kernel, by decide +kernel⟩
def dd_BadCount_init : He.DefD := ⟨("BadCount", some "__init__"), "__init__", "BadCount.__init__", defArgs s_BadCount_init, defBody s_BadCount_init, defScope s_BadCount_init, [], []⟩
def dd_NoName_init : He.DefD := ⟨("NoName", some "__init__"), "__init__", "NoName.__init__", defArgs s_NoName_init, defBody s_NoName_init, defScope s_NoName_init, [], []⟩
def dd_Twice_init : He.DefD := ⟨("Twice", some "__init__"), "__init__", "Twice.__init__", defArgs s_Twice_init, defBody s_Twice_init, defScope s_Twice_init, [], []⟩
def dd_NoCell_init : He.DefD := ⟨("NoCell", some "__init__"), "__init__", "NoCell.__init__", defArgs s_NoCell_init, defBody s_NoCell_init, defScope s_NoCell_init, [], []⟩
def dd_is_name : He.DefD := ⟨("is_name", none), "is_name", "is_name", defArgs s_is_name, defBody s_is_name, defScope s_is_name, [], []⟩
def dd_need_names : He.DefD := ⟨("need_names", none), "need_names", "need_names", defArgs s_need_names, defBody s_need_names, defScope s_need_names, [], []⟩
def dd_need_once : He.DefD := ⟨("need_once", none), "need_once", "need_once", defArgs s_need_once, defBody s_need_once, defScope s_need_once, [], []⟩
def dd_need_count : He.DefD := ⟨("need_count", none), "need_count", "need_count", defArgs s_need_count, defBody s_need_count, defScope s_need_count, [], []⟩
def dd_Board_init : He.DefD := ⟨("Board", some "__init__"), "__init__", "Board.__init__", defArgs s_Board_init, defBody s_Board_init, defScope s_Board_init, [], []⟩
def dd_Board_cells : He.DefD := ⟨("Board", some "cells"), "cells", "Board.cells", defArgs s_Board_cells, defBody s_Board_cells, defScope s_Board_cells, [], []⟩
def dd_Board_values_of : He.DefD := ⟨("Board", some "values_of"), "values_of", "Board.values_of", defArgs s_Board_values_of, defBody s_Board_values_of, defScope s_Board_values_of, [], []⟩
def dd_need_values : He.DefD := ⟨("need_values", none), "need_values", "need_values", defArgs s_need_values, defBody s_need_values, defScope s_need_values, [], []⟩
def dd_Write_init : He.DefD := ⟨("Write", some "__init__"), "__init__", "Write.__init__", defArgs s_Write_init, defBody s_Write_init, defScope s_Write_init, [], []⟩
def dd_Wait_init : He.DefD := ⟨("Wait", some "__init__"), "__init__", "Wait.__init__", defArgs s_Wait_init, defBody s_Wait_init, defScope s_Wait_init, [], []⟩
def dd_Mark_init : He.DefD := ⟨("Mark", some "__init__"), "__init__", "Mark.__init__", defArgs s_Mark_init, defBody s_Mark_init, defScope s_Mark_init, [], []⟩
def dd_If_init : He.DefD := ⟨("If", some "__init__"), "__init__", "If.__init__", defArgs s_If_init, defBody s_If_init, defScope s_If_init, [], []⟩
def dd_While_init : He.DefD := ⟨("While", some "__init__"), "__init__", "While.__init__", defArgs s_While_init, defBody s_While_init, defScope s_While_init, [], []⟩
def dd_Program_init : He.DefD := ⟨("Program", some "__init__"), "__init__", "Program.__init__", defArgs s_Program_init, defBody s_Program_init, defScope s_Program_init, [], []⟩
def dd_programs_within : He.DefD := ⟨("programs_within", none), "programs_within", "programs_within", defArgs s_programs_within, defBody s_programs_within, defScope s_programs_within, [], []⟩
def dd_many_in : He.DefD := ⟨("many_in", none), "many_in", "many_in", defArgs s_many_in, defBody s_many_in, defScope s_many_in, [], []⟩
def dd_depth_of : He.DefD := ⟨("depth_of", none), "depth_of", "depth_of", defArgs s_depth_of, defBody s_depth_of, defScope s_depth_of, [], []⟩
def dd_l_state : He.DefD := ⟨("_law_state", none), "_law_state", "_law_state", defArgs s_l_state, defBody s_l_state, defScope s_l_state, [], []⟩
def dd_l_digit : He.DefD := ⟨("_law_digit", none), "_law_digit", "_law_digit", defArgs s_l_digit, defBody s_l_digit, defScope s_l_digit, [], []⟩
def dd_l_plain : He.DefD := ⟨("_law_plain", none), "_law_plain", "_law_plain", defArgs s_l_plain, defBody s_l_plain, defScope s_l_plain, [], []⟩
def dd_l_text : He.DefD := ⟨("_law_text", none), "_law_text", "_law_text", defArgs s_l_text, defBody s_l_text, defScope s_l_text, [], []⟩
def dd_l_is_name : He.DefD := ⟨("_law_is_name", none), "_law_is_name", "_law_is_name", defArgs s_l_is_name, defBody s_l_is_name, defScope s_l_is_name, [], []⟩
def dd_l_fields : He.DefD := ⟨("_law_fields", none), "_law_fields", "_law_fields", defArgs s_l_fields, defBody s_l_fields, defScope s_l_fields, [], []⟩
def dd_l_made : He.DefD := ⟨("_law_made", none), "_law_made", "_law_made", defArgs s_l_made, defBody s_l_made, defScope s_l_made, [], []⟩
def dd_l_found : He.DefD := ⟨("_law_found", none), "_law_found", "_law_found", defArgs s_l_found, defBody s_l_found, defScope s_l_found, [], []⟩
def dd_law : He.DefD := ⟨("law", none), "law", "law", defArgs s_law, defBody s_law, defScope s_law, [], []⟩
def fn : List He.DefD := [dd_BadCount_init, dd_NoName_init, dd_Twice_init, dd_NoCell_init, dd_is_name, dd_need_names, dd_need_once, dd_need_count, dd_Board_init, dd_Board_cells, dd_Board_values_of, dd_need_values, dd_Write_init, dd_Wait_init, dd_Mark_init, dd_If_init, dd_While_init, dd_Program_init, dd_programs_within, dd_many_in, dd_depth_of, dd_l_state, dd_l_digit, dd_l_plain, dd_l_text, dd_l_is_name, dd_l_fields, dd_l_made, dd_l_found, dd_law]
def fa : List He.Fa := [.free "len",
  .free "isinstance",
  .free "abs",
  .free "sum",
  .free "max",
  .free "all",
  .free "int",
  .free "tuple",
  .free "list",
  .free "range",
  .free "enumerate",
  .free "ValueError",
  .str "LETTERS" "abcdefghijklmnopqrstuvwxyz",
  .str "LETTERS_AND_FIGURES" "abcdefghijklmnopqrstuvwxyz0123456789",
  .int "LONGEST_NAME" 10,
  .int "MOST_STATEMENTS" 24,
  .int "MOST_DEPTH" 6,
  .glo "BoardError",
  .glo "BadCount",
  .noat "BadCount" "what",
  .noat "BadCount" "count",
  .glo "NoName",
  .noat "NoName" "name",
  .glo "Twice",
  .noat "Twice" "name",
  .glo "NoCell",
  .noat "NoCell" "name",
  .glo "Board",
  .cls "Board",
  .noat "Board" "_cells",
  .mkr "Board",
  .meth "Board" "cells",
  .meth "Board" "values_of",
  .glo "Write",
  .cls "Write",
  .noat "Write" "cell",
  .noat "Write" "value",
  .mkr "Write",
  .glo "Wait",
  .cls "Wait",
  .noat "Wait" "cell",
  .noat "Wait" "value",
  .mkr "Wait",
  .glo "Mark",
  .cls "Mark",
  .noat "Mark" "name",
  .mkr "Mark",
  .glo "If",
  .cls "If",
  .noat "If" "cell",
  .noat "If" "value",
  .noat "If" "yes",
  .noat "If" "no",
  .mkr "If",
  .glo "While",
  .cls "While",
  .noat "While" "cell",
  .noat "While" "value",
  .noat "While" "body",
  .mkr "While",
  .glo "Program",
  .cls "Program",
  .noat "Program" "row",
  .mkr "Program",
  .exm "NoName" "NoName" true,
  .glo "is_name",
  .glo "need_names",
  .glo "need_once",
  .glo "need_count",
  .glo "need_values",
  .glo "programs_within",
  .glo "many_in",
  .glo "depth_of",
  .glo "_law_state",
  .glo "_law_digit",
  .glo "_law_plain",
  .glo "_law_text",
  .glo "_law_is_name",
  .glo "_law_fields",
  .glo "_law_made",
  .glo "_law_found",
  .glo "law"]
def exL (K : PySem.W.Frag) : List Bool := [excB K (He.ga K "BoardError"),
  excB K (He.ga K "BadCount"),
  eqB (PySem.W.findIn K (.ref (He.ga K "BadCount")) "__init__") (some (some (.ref (He.fAd K ("BadCount", some "__init__"))))),
  eqB (PySem.W.typeIn K (.ref (He.fAd K ("BadCount", some "__init__")))) (some (.type "function")),
  excB K (He.ga K "NoName"),
  eqB (PySem.W.findIn K (.ref (He.ga K "NoName")) "__init__") (some (some (.ref (He.fAd K ("NoName", some "__init__"))))),
  eqB (PySem.W.typeIn K (.ref (He.fAd K ("NoName", some "__init__")))) (some (.type "function")),
  excB K (He.ga K "Twice"),
  eqB (PySem.W.findIn K (.ref (He.ga K "Twice")) "__init__") (some (some (.ref (He.fAd K ("Twice", some "__init__"))))),
  eqB (PySem.W.typeIn K (.ref (He.fAd K ("Twice", some "__init__")))) (some (.type "function")),
  excB K (He.ga K "NoCell"),
  eqB (PySem.W.findIn K (.ref (He.ga K "NoCell")) "__init__") (some (some (.ref (He.fAd K ("NoCell", some "__init__"))))),
  eqB (PySem.W.typeIn K (.ref (He.fAd K ("NoCell", some "__init__")))) (some (.type "function")),
  eqB (PySem.W.kitOne K (.ref (He.ga K "NoName")) (.ref (He.ga K "BoardError"))) (some true),
  eqB (PySem.W.kitOne K (.ref (He.ga K "NoName")) (.type "ValueError")) (some true),
  eqB (PySem.W.kitOne K (.ref (He.ga K "NoName")) (.ref (He.ga K "Twice"))) (some false)]
def exK (K : PySem.W.Frag) : Bool := (exL K).all id
theorem exK_at {K : PySem.W.Frag} (h : exK K = true) (i : Nat) {b : Bool} (e : (exL K)[i]? = some b) : b = true := List.all_eq_true.mp h b (List.mem_of_getElem? e)
/-- what the top has written -/
structure Txt (K : PySem.W.Frag) (mg : Str → Option Value) : Prop where
  ex : ∃ (w : World) (h : Heap), K.In h ∧ h.Ns mainGlobals mg ∧ He.SaysX fa fn [] [] exK w h K
section
variable {K : PySem.W.Frag} {mg : Str → Option Value}
theorem Txt.n_len (T : Txt K mg) : mg "len" = none := by obtain ⟨w, h, X, G, c⟩ := T.ex; exact He.free_ok X G (He.SaysD.fact (congrArg (fun z : He.AlT => z.1) c.t) 0 rfl)
theorem Txt.n_isinstance (T : Txt K mg) : mg "isinstance" = none := by obtain ⟨w, h, X, G, c⟩ := T.ex; exact He.free_ok X G (He.SaysD.fact (congrArg (fun z : He.AlT => z.1) c.t) 1 rfl)
theorem Txt.n_abs (T : Txt K mg) : mg "abs" = none := by obtain ⟨w, h, X, G, c⟩ := T.ex; exact He.free_ok X G (He.SaysD.fact (congrArg (fun z : He.AlT => z.1) c.t) 2 rfl)
theorem Txt.n_sum (T : Txt K mg) : mg "sum" = none := by obtain ⟨w, h, X, G, c⟩ := T.ex; exact He.free_ok X G (He.SaysD.fact (congrArg (fun z : He.AlT => z.1) c.t) 3 rfl)
theorem Txt.n_max (T : Txt K mg) : mg "max" = none := by obtain ⟨w, h, X, G, c⟩ := T.ex; exact He.free_ok X G (He.SaysD.fact (congrArg (fun z : He.AlT => z.1) c.t) 4 rfl)
theorem Txt.n_all (T : Txt K mg) : mg "all" = none := by obtain ⟨w, h, X, G, c⟩ := T.ex; exact He.free_ok X G (He.SaysD.fact (congrArg (fun z : He.AlT => z.1) c.t) 5 rfl)
theorem Txt.n_int (T : Txt K mg) : mg "int" = none := by obtain ⟨w, h, X, G, c⟩ := T.ex; exact He.free_ok X G (He.SaysD.fact (congrArg (fun z : He.AlT => z.1) c.t) 6 rfl)
theorem Txt.n_tuple (T : Txt K mg) : mg "tuple" = none := by obtain ⟨w, h, X, G, c⟩ := T.ex; exact He.free_ok X G (He.SaysD.fact (congrArg (fun z : He.AlT => z.1) c.t) 7 rfl)
theorem Txt.n_list (T : Txt K mg) : mg "list" = none := by obtain ⟨w, h, X, G, c⟩ := T.ex; exact He.free_ok X G (He.SaysD.fact (congrArg (fun z : He.AlT => z.1) c.t) 8 rfl)
theorem Txt.n_range (T : Txt K mg) : mg "range" = none := by obtain ⟨w, h, X, G, c⟩ := T.ex; exact He.free_ok X G (He.SaysD.fact (congrArg (fun z : He.AlT => z.1) c.t) 9 rfl)
theorem Txt.n_enumerate (T : Txt K mg) : mg "enumerate" = none := by obtain ⟨w, h, X, G, c⟩ := T.ex; exact He.free_ok X G (He.SaysD.fact (congrArg (fun z : He.AlT => z.1) c.t) 10 rfl)
theorem Txt.n_ValueError (T : Txt K mg) : mg "ValueError" = none := by obtain ⟨w, h, X, G, c⟩ := T.ex; exact He.free_ok X G (He.SaysD.fact (congrArg (fun z : He.AlT => z.1) c.t) 11 rfl)
theorem Txt.c_LETTERS (T : Txt K mg) : ∃ u, mg "LETTERS" = some u ∧ RelV (.str "abcdefghijklmnopqrstuvwxyz") u := by obtain ⟨w, h, X, G, c⟩ := T.ex; obtain ⟨t, e⟩ := He.str_ok X G (He.SaysD.fact (congrArg (fun z : He.AlT => z.1) c.t) 12 rfl); exact ⟨_, e, t, rfl⟩
theorem Txt.c_LETTERS_AND_FIGURES (T : Txt K mg) : ∃ u, mg "LETTERS_AND_FIGURES" = some u ∧ RelV (.str "abcdefghijklmnopqrstuvwxyz0123456789") u := by obtain ⟨w, h, X, G, c⟩ := T.ex; obtain ⟨t, e⟩ := He.str_ok X G (He.SaysD.fact (congrArg (fun z : He.AlT => z.1) c.t) 13 rfl); exact ⟨_, e, t, rfl⟩
theorem Txt.c_LONGEST_NAME (T : Txt K mg) : ∃ u, mg "LONGEST_NAME" = some u ∧ RelV (.int 10) u := by obtain ⟨w, h, X, G, c⟩ := T.ex; obtain ⟨t, e⟩ := He.int_ok X G (He.SaysD.fact (congrArg (fun z : He.AlT => z.1) c.t) 14 rfl); exact ⟨_, e, t, rfl⟩
theorem Txt.c_MOST_STATEMENTS (T : Txt K mg) : ∃ u, mg "MOST_STATEMENTS" = some u ∧ RelV (.int 24) u := by obtain ⟨w, h, X, G, c⟩ := T.ex; obtain ⟨t, e⟩ := He.int_ok X G (He.SaysD.fact (congrArg (fun z : He.AlT => z.1) c.t) 15 rfl); exact ⟨_, e, t, rfl⟩
theorem Txt.c_MOST_DEPTH (T : Txt K mg) : ∃ u, mg "MOST_DEPTH" = some u ∧ RelV (.int 6) u := by obtain ⟨w, h, X, G, c⟩ := T.ex; obtain ⟨t, e⟩ := He.int_ok X G (He.SaysD.fact (congrArg (fun z : He.AlT => z.1) c.t) 16 rfl); exact ⟨_, e, t, rfl⟩
theorem Txt.g_BoardError (T : Txt K mg) : mg "BoardError" = some (.ref (He.ga K "BoardError")) := by obtain ⟨w, h, X, G, c⟩ := T.ex; exact He.glo_ok X G (He.SaysD.fact (congrArg (fun z : He.AlT => z.1) c.t) 17 rfl)
theorem Txt.x_BoardError (T : Txt K mg) : ExC K (He.ga K "BoardError") := by obtain ⟨w, h, X, G, c⟩ := T.ex; exact excB_ok (exK_at c.more 0 rfl)
theorem Txt.g_BadCount (T : Txt K mg) : mg "BadCount" = some (.ref (He.ga K "BadCount")) := by obtain ⟨w, h, X, G, c⟩ := T.ex; exact He.glo_ok X G (He.SaysD.fact (congrArg (fun z : He.AlT => z.1) c.t) 18 rfl)
theorem Txt.x_BadCount (T : Txt K mg) : ExC K (He.ga K "BadCount") := by obtain ⟨w, h, X, G, c⟩ := T.ex; exact excB_ok (exK_at c.more 1 rfl)
theorem Txt.na_BadCount_what (T : Txt K mg) : PySem.W.findIn K (.ref (He.ga K "BadCount")) "what" = some none := by obtain ⟨w, h, X, G, c⟩ := T.ex; exact He.noat_ok (He.SaysD.fact (congrArg (fun z : He.AlT => z.1) c.t) 19 rfl)
theorem Txt.na_BadCount_count (T : Txt K mg) : PySem.W.findIn K (.ref (He.ga K "BadCount")) "count" = some none := by obtain ⟨w, h, X, G, c⟩ := T.ex; exact He.noat_ok (He.SaysD.fact (congrArg (fun z : He.AlT => z.1) c.t) 20 rfl)
theorem Txt.xi_BadCount (T : Txt K mg) : PySem.W.findIn K (.ref (He.ga K "BadCount")) "__init__" = some (some (.ref (He.fAd K ("BadCount", some "__init__")))) := by obtain ⟨w, h, X, G, c⟩ := T.ex; exact eqB_ok (exK_at c.more 2 rfl)
theorem Txt.xt_BadCount (T : Txt K mg) : PySem.W.typeIn K (.ref (He.fAd K ("BadCount", some "__init__"))) = some (.type "function") := by obtain ⟨w, h, X, G, c⟩ := T.ex; exact eqB_ok (exK_at c.more 3 rfl)
theorem Txt.g_NoName (T : Txt K mg) : mg "NoName" = some (.ref (He.ga K "NoName")) := by obtain ⟨w, h, X, G, c⟩ := T.ex; exact He.glo_ok X G (He.SaysD.fact (congrArg (fun z : He.AlT => z.1) c.t) 21 rfl)
theorem Txt.x_NoName (T : Txt K mg) : ExC K (He.ga K "NoName") := by obtain ⟨w, h, X, G, c⟩ := T.ex; exact excB_ok (exK_at c.more 4 rfl)
theorem Txt.na_NoName_name (T : Txt K mg) : PySem.W.findIn K (.ref (He.ga K "NoName")) "name" = some none := by obtain ⟨w, h, X, G, c⟩ := T.ex; exact He.noat_ok (He.SaysD.fact (congrArg (fun z : He.AlT => z.1) c.t) 22 rfl)
theorem Txt.xi_NoName (T : Txt K mg) : PySem.W.findIn K (.ref (He.ga K "NoName")) "__init__" = some (some (.ref (He.fAd K ("NoName", some "__init__")))) := by obtain ⟨w, h, X, G, c⟩ := T.ex; exact eqB_ok (exK_at c.more 5 rfl)
theorem Txt.xt_NoName (T : Txt K mg) : PySem.W.typeIn K (.ref (He.fAd K ("NoName", some "__init__"))) = some (.type "function") := by obtain ⟨w, h, X, G, c⟩ := T.ex; exact eqB_ok (exK_at c.more 6 rfl)
theorem Txt.g_Twice (T : Txt K mg) : mg "Twice" = some (.ref (He.ga K "Twice")) := by obtain ⟨w, h, X, G, c⟩ := T.ex; exact He.glo_ok X G (He.SaysD.fact (congrArg (fun z : He.AlT => z.1) c.t) 23 rfl)
theorem Txt.x_Twice (T : Txt K mg) : ExC K (He.ga K "Twice") := by obtain ⟨w, h, X, G, c⟩ := T.ex; exact excB_ok (exK_at c.more 7 rfl)
theorem Txt.na_Twice_name (T : Txt K mg) : PySem.W.findIn K (.ref (He.ga K "Twice")) "name" = some none := by obtain ⟨w, h, X, G, c⟩ := T.ex; exact He.noat_ok (He.SaysD.fact (congrArg (fun z : He.AlT => z.1) c.t) 24 rfl)
theorem Txt.xi_Twice (T : Txt K mg) : PySem.W.findIn K (.ref (He.ga K "Twice")) "__init__" = some (some (.ref (He.fAd K ("Twice", some "__init__")))) := by obtain ⟨w, h, X, G, c⟩ := T.ex; exact eqB_ok (exK_at c.more 8 rfl)
theorem Txt.xt_Twice (T : Txt K mg) : PySem.W.typeIn K (.ref (He.fAd K ("Twice", some "__init__"))) = some (.type "function") := by obtain ⟨w, h, X, G, c⟩ := T.ex; exact eqB_ok (exK_at c.more 9 rfl)
theorem Txt.g_NoCell (T : Txt K mg) : mg "NoCell" = some (.ref (He.ga K "NoCell")) := by obtain ⟨w, h, X, G, c⟩ := T.ex; exact He.glo_ok X G (He.SaysD.fact (congrArg (fun z : He.AlT => z.1) c.t) 25 rfl)
theorem Txt.x_NoCell (T : Txt K mg) : ExC K (He.ga K "NoCell") := by obtain ⟨w, h, X, G, c⟩ := T.ex; exact excB_ok (exK_at c.more 10 rfl)
theorem Txt.na_NoCell_name (T : Txt K mg) : PySem.W.findIn K (.ref (He.ga K "NoCell")) "name" = some none := by obtain ⟨w, h, X, G, c⟩ := T.ex; exact He.noat_ok (He.SaysD.fact (congrArg (fun z : He.AlT => z.1) c.t) 26 rfl)
theorem Txt.xi_NoCell (T : Txt K mg) : PySem.W.findIn K (.ref (He.ga K "NoCell")) "__init__" = some (some (.ref (He.fAd K ("NoCell", some "__init__")))) := by obtain ⟨w, h, X, G, c⟩ := T.ex; exact eqB_ok (exK_at c.more 11 rfl)
theorem Txt.xt_NoCell (T : Txt K mg) : PySem.W.typeIn K (.ref (He.fAd K ("NoCell", some "__init__"))) = some (.type "function") := by obtain ⟨w, h, X, G, c⟩ := T.ex; exact eqB_ok (exK_at c.more 12 rfl)
theorem Txt.g_Board (T : Txt K mg) : mg "Board" = some (.ref (He.ga K "Board")) := by obtain ⟨w, h, X, G, c⟩ := T.ex; exact He.glo_ok X G (He.SaysD.fact (congrArg (fun z : He.AlT => z.1) c.t) 27 rfl)
theorem Txt.cl_Board (T : Txt K mg) : Cls K (He.ga K "Board") := by obtain ⟨w, h, X, G, c⟩ := T.ex; exact He.cls_ok (He.SaysD.fact (congrArg (fun z : He.AlT => z.1) c.t) 28 rfl)
theorem Txt.na_Board__cells (T : Txt K mg) : NoAttr K (He.ga K "Board") "_cells" := by obtain ⟨w, h, X, G, c⟩ := T.ex; exact He.noat_ok (He.SaysD.fact (congrArg (fun z : He.AlT => z.1) c.t) 29 rfl)
theorem Txt.mk_Board (T : Txt K mg) : Mk K (He.ga K "Board") (He.fAd K ("Board", some "__init__")) := by obtain ⟨w, h, X, G, c⟩ := T.ex; exact He.mkr_ok (He.SaysD.fact (congrArg (fun z : He.AlT => z.1) c.t) 30 rfl)
theorem Txt.mt_Board_cells (T : Txt K mg) : Meth K (He.ga K "Board") "cells" (He.fAd K ("Board", some "cells")) := by obtain ⟨w, h, X, G, c⟩ := T.ex; exact He.meth_ok (He.SaysD.fact (congrArg (fun z : He.AlT => z.1) c.t) 31 rfl)
theorem Txt.mt_Board_values_of (T : Txt K mg) : Meth K (He.ga K "Board") "values_of" (He.fAd K ("Board", some "values_of")) := by obtain ⟨w, h, X, G, c⟩ := T.ex; exact He.meth_ok (He.SaysD.fact (congrArg (fun z : He.AlT => z.1) c.t) 32 rfl)
theorem Txt.g_Write (T : Txt K mg) : mg "Write" = some (.ref (He.ga K "Write")) := by obtain ⟨w, h, X, G, c⟩ := T.ex; exact He.glo_ok X G (He.SaysD.fact (congrArg (fun z : He.AlT => z.1) c.t) 33 rfl)
theorem Txt.cl_Write (T : Txt K mg) : Cls K (He.ga K "Write") := by obtain ⟨w, h, X, G, c⟩ := T.ex; exact He.cls_ok (He.SaysD.fact (congrArg (fun z : He.AlT => z.1) c.t) 34 rfl)
theorem Txt.na_Write_cell (T : Txt K mg) : NoAttr K (He.ga K "Write") "cell" := by obtain ⟨w, h, X, G, c⟩ := T.ex; exact He.noat_ok (He.SaysD.fact (congrArg (fun z : He.AlT => z.1) c.t) 35 rfl)
theorem Txt.na_Write_value (T : Txt K mg) : NoAttr K (He.ga K "Write") "value" := by obtain ⟨w, h, X, G, c⟩ := T.ex; exact He.noat_ok (He.SaysD.fact (congrArg (fun z : He.AlT => z.1) c.t) 36 rfl)
theorem Txt.mk_Write (T : Txt K mg) : Mk K (He.ga K "Write") (He.fAd K ("Write", some "__init__")) := by obtain ⟨w, h, X, G, c⟩ := T.ex; exact He.mkr_ok (He.SaysD.fact (congrArg (fun z : He.AlT => z.1) c.t) 37 rfl)
theorem Txt.g_Wait (T : Txt K mg) : mg "Wait" = some (.ref (He.ga K "Wait")) := by obtain ⟨w, h, X, G, c⟩ := T.ex; exact He.glo_ok X G (He.SaysD.fact (congrArg (fun z : He.AlT => z.1) c.t) 38 rfl)
theorem Txt.cl_Wait (T : Txt K mg) : Cls K (He.ga K "Wait") := by obtain ⟨w, h, X, G, c⟩ := T.ex; exact He.cls_ok (He.SaysD.fact (congrArg (fun z : He.AlT => z.1) c.t) 39 rfl)
theorem Txt.na_Wait_cell (T : Txt K mg) : NoAttr K (He.ga K "Wait") "cell" := by obtain ⟨w, h, X, G, c⟩ := T.ex; exact He.noat_ok (He.SaysD.fact (congrArg (fun z : He.AlT => z.1) c.t) 40 rfl)
theorem Txt.na_Wait_value (T : Txt K mg) : NoAttr K (He.ga K "Wait") "value" := by obtain ⟨w, h, X, G, c⟩ := T.ex; exact He.noat_ok (He.SaysD.fact (congrArg (fun z : He.AlT => z.1) c.t) 41 rfl)
theorem Txt.mk_Wait (T : Txt K mg) : Mk K (He.ga K "Wait") (He.fAd K ("Wait", some "__init__")) := by obtain ⟨w, h, X, G, c⟩ := T.ex; exact He.mkr_ok (He.SaysD.fact (congrArg (fun z : He.AlT => z.1) c.t) 42 rfl)
theorem Txt.g_Mark (T : Txt K mg) : mg "Mark" = some (.ref (He.ga K "Mark")) := by obtain ⟨w, h, X, G, c⟩ := T.ex; exact He.glo_ok X G (He.SaysD.fact (congrArg (fun z : He.AlT => z.1) c.t) 43 rfl)
theorem Txt.cl_Mark (T : Txt K mg) : Cls K (He.ga K "Mark") := by obtain ⟨w, h, X, G, c⟩ := T.ex; exact He.cls_ok (He.SaysD.fact (congrArg (fun z : He.AlT => z.1) c.t) 44 rfl)
theorem Txt.na_Mark_name (T : Txt K mg) : NoAttr K (He.ga K "Mark") "name" := by obtain ⟨w, h, X, G, c⟩ := T.ex; exact He.noat_ok (He.SaysD.fact (congrArg (fun z : He.AlT => z.1) c.t) 45 rfl)
theorem Txt.mk_Mark (T : Txt K mg) : Mk K (He.ga K "Mark") (He.fAd K ("Mark", some "__init__")) := by obtain ⟨w, h, X, G, c⟩ := T.ex; exact He.mkr_ok (He.SaysD.fact (congrArg (fun z : He.AlT => z.1) c.t) 46 rfl)
theorem Txt.g_If (T : Txt K mg) : mg "If" = some (.ref (He.ga K "If")) := by obtain ⟨w, h, X, G, c⟩ := T.ex; exact He.glo_ok X G (He.SaysD.fact (congrArg (fun z : He.AlT => z.1) c.t) 47 rfl)
theorem Txt.cl_If (T : Txt K mg) : Cls K (He.ga K "If") := by obtain ⟨w, h, X, G, c⟩ := T.ex; exact He.cls_ok (He.SaysD.fact (congrArg (fun z : He.AlT => z.1) c.t) 48 rfl)
theorem Txt.na_If_cell (T : Txt K mg) : NoAttr K (He.ga K "If") "cell" := by obtain ⟨w, h, X, G, c⟩ := T.ex; exact He.noat_ok (He.SaysD.fact (congrArg (fun z : He.AlT => z.1) c.t) 49 rfl)
theorem Txt.na_If_value (T : Txt K mg) : NoAttr K (He.ga K "If") "value" := by obtain ⟨w, h, X, G, c⟩ := T.ex; exact He.noat_ok (He.SaysD.fact (congrArg (fun z : He.AlT => z.1) c.t) 50 rfl)
theorem Txt.na_If_yes (T : Txt K mg) : NoAttr K (He.ga K "If") "yes" := by obtain ⟨w, h, X, G, c⟩ := T.ex; exact He.noat_ok (He.SaysD.fact (congrArg (fun z : He.AlT => z.1) c.t) 51 rfl)
theorem Txt.na_If_no (T : Txt K mg) : NoAttr K (He.ga K "If") "no" := by obtain ⟨w, h, X, G, c⟩ := T.ex; exact He.noat_ok (He.SaysD.fact (congrArg (fun z : He.AlT => z.1) c.t) 52 rfl)
theorem Txt.mk_If (T : Txt K mg) : Mk K (He.ga K "If") (He.fAd K ("If", some "__init__")) := by obtain ⟨w, h, X, G, c⟩ := T.ex; exact He.mkr_ok (He.SaysD.fact (congrArg (fun z : He.AlT => z.1) c.t) 53 rfl)
theorem Txt.g_While (T : Txt K mg) : mg "While" = some (.ref (He.ga K "While")) := by obtain ⟨w, h, X, G, c⟩ := T.ex; exact He.glo_ok X G (He.SaysD.fact (congrArg (fun z : He.AlT => z.1) c.t) 54 rfl)
theorem Txt.cl_While (T : Txt K mg) : Cls K (He.ga K "While") := by obtain ⟨w, h, X, G, c⟩ := T.ex; exact He.cls_ok (He.SaysD.fact (congrArg (fun z : He.AlT => z.1) c.t) 55 rfl)
theorem Txt.na_While_cell (T : Txt K mg) : NoAttr K (He.ga K "While") "cell" := by obtain ⟨w, h, X, G, c⟩ := T.ex; exact He.noat_ok (He.SaysD.fact (congrArg (fun z : He.AlT => z.1) c.t) 56 rfl)
theorem Txt.na_While_value (T : Txt K mg) : NoAttr K (He.ga K "While") "value" := by obtain ⟨w, h, X, G, c⟩ := T.ex; exact He.noat_ok (He.SaysD.fact (congrArg (fun z : He.AlT => z.1) c.t) 57 rfl)
theorem Txt.na_While_body (T : Txt K mg) : NoAttr K (He.ga K "While") "body" := by obtain ⟨w, h, X, G, c⟩ := T.ex; exact He.noat_ok (He.SaysD.fact (congrArg (fun z : He.AlT => z.1) c.t) 58 rfl)
theorem Txt.mk_While (T : Txt K mg) : Mk K (He.ga K "While") (He.fAd K ("While", some "__init__")) := by obtain ⟨w, h, X, G, c⟩ := T.ex; exact He.mkr_ok (He.SaysD.fact (congrArg (fun z : He.AlT => z.1) c.t) 59 rfl)
theorem Txt.g_Program (T : Txt K mg) : mg "Program" = some (.ref (He.ga K "Program")) := by obtain ⟨w, h, X, G, c⟩ := T.ex; exact He.glo_ok X G (He.SaysD.fact (congrArg (fun z : He.AlT => z.1) c.t) 60 rfl)
theorem Txt.cl_Program (T : Txt K mg) : Cls K (He.ga K "Program") := by obtain ⟨w, h, X, G, c⟩ := T.ex; exact He.cls_ok (He.SaysD.fact (congrArg (fun z : He.AlT => z.1) c.t) 61 rfl)
theorem Txt.na_Program_row (T : Txt K mg) : NoAttr K (He.ga K "Program") "row" := by obtain ⟨w, h, X, G, c⟩ := T.ex; exact He.noat_ok (He.SaysD.fact (congrArg (fun z : He.AlT => z.1) c.t) 62 rfl)
theorem Txt.mk_Program (T : Txt K mg) : Mk K (He.ga K "Program") (He.fAd K ("Program", some "__init__")) := by obtain ⟨w, h, X, G, c⟩ := T.ex; exact He.mkr_ok (He.SaysD.fact (congrArg (fun z : He.AlT => z.1) c.t) 63 rfl)
theorem Txt.em_NoName_NoName (T : Txt K mg) : PySem.W.exmOne K (.ref (He.ga K "NoName")) (.ref (He.ga K "NoName")) = some true := by obtain ⟨w, h, X, G, c⟩ := T.ex; exact He.exm_ok (He.SaysD.fact (congrArg (fun z : He.AlT => z.1) c.t) 64 rfl)
theorem Txt.ki_NoName_BoardError (T : Txt K mg) : PySem.W.kitOne K (.ref (He.ga K "NoName")) (.ref (He.ga K "BoardError")) = some true := by obtain ⟨w, h, X, G, c⟩ := T.ex; exact eqB_ok (exK_at c.more 13 rfl)
theorem Txt.ki_NoName_ValueError (T : Txt K mg) : PySem.W.kitOne K (.ref (He.ga K "NoName")) (.type "ValueError") = some true := by obtain ⟨w, h, X, G, c⟩ := T.ex; exact eqB_ok (exK_at c.more 14 rfl)
theorem Txt.ki_NoName_Twice (T : Txt K mg) : PySem.W.kitOne K (.ref (He.ga K "NoName")) (.ref (He.ga K "Twice")) = some false := by obtain ⟨w, h, X, G, c⟩ := T.ex; exact eqB_ok (exK_at c.more 15 rfl)
theorem Txt.g_is_name (T : Txt K mg) : mg "is_name" = some (.ref (He.fAd K ("is_name", none))) := by obtain ⟨w, h, X, G, c⟩ := T.ex; exact He.glo_ok X G (He.SaysD.fact (congrArg (fun z : He.AlT => z.1) c.t) 65 rfl)
theorem Txt.g_need_names (T : Txt K mg) : mg "need_names" = some (.ref (He.fAd K ("need_names", none))) := by obtain ⟨w, h, X, G, c⟩ := T.ex; exact He.glo_ok X G (He.SaysD.fact (congrArg (fun z : He.AlT => z.1) c.t) 66 rfl)
theorem Txt.g_need_once (T : Txt K mg) : mg "need_once" = some (.ref (He.fAd K ("need_once", none))) := by obtain ⟨w, h, X, G, c⟩ := T.ex; exact He.glo_ok X G (He.SaysD.fact (congrArg (fun z : He.AlT => z.1) c.t) 67 rfl)
theorem Txt.g_need_count (T : Txt K mg) : mg "need_count" = some (.ref (He.fAd K ("need_count", none))) := by obtain ⟨w, h, X, G, c⟩ := T.ex; exact He.glo_ok X G (He.SaysD.fact (congrArg (fun z : He.AlT => z.1) c.t) 68 rfl)
theorem Txt.g_need_values (T : Txt K mg) : mg "need_values" = some (.ref (He.fAd K ("need_values", none))) := by obtain ⟨w, h, X, G, c⟩ := T.ex; exact He.glo_ok X G (He.SaysD.fact (congrArg (fun z : He.AlT => z.1) c.t) 69 rfl)
theorem Txt.g_programs_within (T : Txt K mg) : mg "programs_within" = some (.ref (He.fAd K ("programs_within", none))) := by obtain ⟨w, h, X, G, c⟩ := T.ex; exact He.glo_ok X G (He.SaysD.fact (congrArg (fun z : He.AlT => z.1) c.t) 70 rfl)
theorem Txt.g_many_in (T : Txt K mg) : mg "many_in" = some (.ref (He.fAd K ("many_in", none))) := by obtain ⟨w, h, X, G, c⟩ := T.ex; exact He.glo_ok X G (He.SaysD.fact (congrArg (fun z : He.AlT => z.1) c.t) 71 rfl)
theorem Txt.g_depth_of (T : Txt K mg) : mg "depth_of" = some (.ref (He.fAd K ("depth_of", none))) := by obtain ⟨w, h, X, G, c⟩ := T.ex; exact He.glo_ok X G (He.SaysD.fact (congrArg (fun z : He.AlT => z.1) c.t) 72 rfl)
theorem Txt.g_l_state (T : Txt K mg) : mg "_law_state" = some (.ref (He.fAd K ("_law_state", none))) := by obtain ⟨w, h, X, G, c⟩ := T.ex; exact He.glo_ok X G (He.SaysD.fact (congrArg (fun z : He.AlT => z.1) c.t) 73 rfl)
theorem Txt.g_l_digit (T : Txt K mg) : mg "_law_digit" = some (.ref (He.fAd K ("_law_digit", none))) := by obtain ⟨w, h, X, G, c⟩ := T.ex; exact He.glo_ok X G (He.SaysD.fact (congrArg (fun z : He.AlT => z.1) c.t) 74 rfl)
theorem Txt.g_l_plain (T : Txt K mg) : mg "_law_plain" = some (.ref (He.fAd K ("_law_plain", none))) := by obtain ⟨w, h, X, G, c⟩ := T.ex; exact He.glo_ok X G (He.SaysD.fact (congrArg (fun z : He.AlT => z.1) c.t) 75 rfl)
theorem Txt.g_l_text (T : Txt K mg) : mg "_law_text" = some (.ref (He.fAd K ("_law_text", none))) := by obtain ⟨w, h, X, G, c⟩ := T.ex; exact He.glo_ok X G (He.SaysD.fact (congrArg (fun z : He.AlT => z.1) c.t) 76 rfl)
theorem Txt.g_l_is_name (T : Txt K mg) : mg "_law_is_name" = some (.ref (He.fAd K ("_law_is_name", none))) := by obtain ⟨w, h, X, G, c⟩ := T.ex; exact He.glo_ok X G (He.SaysD.fact (congrArg (fun z : He.AlT => z.1) c.t) 77 rfl)
theorem Txt.g_l_fields (T : Txt K mg) : mg "_law_fields" = some (.ref (He.fAd K ("_law_fields", none))) := by obtain ⟨w, h, X, G, c⟩ := T.ex; exact He.glo_ok X G (He.SaysD.fact (congrArg (fun z : He.AlT => z.1) c.t) 78 rfl)
theorem Txt.g_l_made (T : Txt K mg) : mg "_law_made" = some (.ref (He.fAd K ("_law_made", none))) := by obtain ⟨w, h, X, G, c⟩ := T.ex; exact He.glo_ok X G (He.SaysD.fact (congrArg (fun z : He.AlT => z.1) c.t) 79 rfl)
theorem Txt.g_l_found (T : Txt K mg) : mg "_law_found" = some (.ref (He.fAd K ("_law_found", none))) := by obtain ⟨w, h, X, G, c⟩ := T.ex; exact He.glo_ok X G (He.SaysD.fact (congrArg (fun z : He.AlT => z.1) c.t) 80 rfl)
theorem Txt.g_law (T : Txt K mg) : mg "law" = some (.ref (He.fAd K ("law", none))) := by obtain ⟨w, h, X, G, c⟩ := T.ex; exact He.glo_ok X G (He.SaysD.fact (congrArg (fun z : He.AlT => z.1) c.t) 81 rfl)
theorem Txt.d_BadCount_init (T : Txt K mg) : ∃ fd, FunD K "__init__" "BadCount.__init__" (defArgs s_BadCount_init) (defBody s_BadCount_init) (defScope s_BadCount_init) [] [] (He.fAd K ("BadCount", some "__init__")) fd := by obtain ⟨w, h, X, G, c⟩ := T.ex; exact He.SaysD.def_ (congrArg (fun z : He.AlT => z.1) c.t) 0 rfl
theorem Txt.d_NoName_init (T : Txt K mg) : ∃ fd, FunD K "__init__" "NoName.__init__" (defArgs s_NoName_init) (defBody s_NoName_init) (defScope s_NoName_init) [] [] (He.fAd K ("NoName", some "__init__")) fd := by obtain ⟨w, h, X, G, c⟩ := T.ex; exact He.SaysD.def_ (congrArg (fun z : He.AlT => z.1) c.t) 1 rfl
theorem Txt.d_Twice_init (T : Txt K mg) : ∃ fd, FunD K "__init__" "Twice.__init__" (defArgs s_Twice_init) (defBody s_Twice_init) (defScope s_Twice_init) [] [] (He.fAd K ("Twice", some "__init__")) fd := by obtain ⟨w, h, X, G, c⟩ := T.ex; exact He.SaysD.def_ (congrArg (fun z : He.AlT => z.1) c.t) 2 rfl
theorem Txt.d_NoCell_init (T : Txt K mg) : ∃ fd, FunD K "__init__" "NoCell.__init__" (defArgs s_NoCell_init) (defBody s_NoCell_init) (defScope s_NoCell_init) [] [] (He.fAd K ("NoCell", some "__init__")) fd := by obtain ⟨w, h, X, G, c⟩ := T.ex; exact He.SaysD.def_ (congrArg (fun z : He.AlT => z.1) c.t) 3 rfl
theorem Txt.d_is_name (T : Txt K mg) : ∃ fd, FunD K "is_name" "is_name" (defArgs s_is_name) (defBody s_is_name) (defScope s_is_name) [] [] (He.fAd K ("is_name", none)) fd := by obtain ⟨w, h, X, G, c⟩ := T.ex; exact He.SaysD.def_ (congrArg (fun z : He.AlT => z.1) c.t) 4 rfl
theorem Txt.d_need_names (T : Txt K mg) : ∃ fd, FunD K "need_names" "need_names" (defArgs s_need_names) (defBody s_need_names) (defScope s_need_names) [] [] (He.fAd K ("need_names", none)) fd := by obtain ⟨w, h, X, G, c⟩ := T.ex; exact He.SaysD.def_ (congrArg (fun z : He.AlT => z.1) c.t) 5 rfl
theorem Txt.d_need_once (T : Txt K mg) : ∃ fd, FunD K "need_once" "need_once" (defArgs s_need_once) (defBody s_need_once) (defScope s_need_once) [] [] (He.fAd K ("need_once", none)) fd := by obtain ⟨w, h, X, G, c⟩ := T.ex; exact He.SaysD.def_ (congrArg (fun z : He.AlT => z.1) c.t) 6 rfl
theorem Txt.d_need_count (T : Txt K mg) : ∃ fd, FunD K "need_count" "need_count" (defArgs s_need_count) (defBody s_need_count) (defScope s_need_count) [] [] (He.fAd K ("need_count", none)) fd := by obtain ⟨w, h, X, G, c⟩ := T.ex; exact He.SaysD.def_ (congrArg (fun z : He.AlT => z.1) c.t) 7 rfl
theorem Txt.d_Board_init (T : Txt K mg) : ∃ fd, FunD K "__init__" "Board.__init__" (defArgs s_Board_init) (defBody s_Board_init) (defScope s_Board_init) [] [] (He.fAd K ("Board", some "__init__")) fd := by obtain ⟨w, h, X, G, c⟩ := T.ex; exact He.SaysD.def_ (congrArg (fun z : He.AlT => z.1) c.t) 8 rfl
theorem Txt.d_Board_cells (T : Txt K mg) : ∃ fd, FunD K "cells" "Board.cells" (defArgs s_Board_cells) (defBody s_Board_cells) (defScope s_Board_cells) [] [] (He.fAd K ("Board", some "cells")) fd := by obtain ⟨w, h, X, G, c⟩ := T.ex; exact He.SaysD.def_ (congrArg (fun z : He.AlT => z.1) c.t) 9 rfl
theorem Txt.d_Board_values_of (T : Txt K mg) : ∃ fd, FunD K "values_of" "Board.values_of" (defArgs s_Board_values_of) (defBody s_Board_values_of) (defScope s_Board_values_of) [] [] (He.fAd K ("Board", some "values_of")) fd := by obtain ⟨w, h, X, G, c⟩ := T.ex; exact He.SaysD.def_ (congrArg (fun z : He.AlT => z.1) c.t) 10 rfl
theorem Txt.d_need_values (T : Txt K mg) : ∃ fd, FunD K "need_values" "need_values" (defArgs s_need_values) (defBody s_need_values) (defScope s_need_values) [] [] (He.fAd K ("need_values", none)) fd := by obtain ⟨w, h, X, G, c⟩ := T.ex; exact He.SaysD.def_ (congrArg (fun z : He.AlT => z.1) c.t) 11 rfl
theorem Txt.d_Write_init (T : Txt K mg) : ∃ fd, FunD K "__init__" "Write.__init__" (defArgs s_Write_init) (defBody s_Write_init) (defScope s_Write_init) [] [] (He.fAd K ("Write", some "__init__")) fd := by obtain ⟨w, h, X, G, c⟩ := T.ex; exact He.SaysD.def_ (congrArg (fun z : He.AlT => z.1) c.t) 12 rfl
theorem Txt.d_Wait_init (T : Txt K mg) : ∃ fd, FunD K "__init__" "Wait.__init__" (defArgs s_Wait_init) (defBody s_Wait_init) (defScope s_Wait_init) [] [] (He.fAd K ("Wait", some "__init__")) fd := by obtain ⟨w, h, X, G, c⟩ := T.ex; exact He.SaysD.def_ (congrArg (fun z : He.AlT => z.1) c.t) 13 rfl
theorem Txt.d_Mark_init (T : Txt K mg) : ∃ fd, FunD K "__init__" "Mark.__init__" (defArgs s_Mark_init) (defBody s_Mark_init) (defScope s_Mark_init) [] [] (He.fAd K ("Mark", some "__init__")) fd := by obtain ⟨w, h, X, G, c⟩ := T.ex; exact He.SaysD.def_ (congrArg (fun z : He.AlT => z.1) c.t) 14 rfl
theorem Txt.d_If_init (T : Txt K mg) : ∃ fd, FunD K "__init__" "If.__init__" (defArgs s_If_init) (defBody s_If_init) (defScope s_If_init) [] [] (He.fAd K ("If", some "__init__")) fd := by obtain ⟨w, h, X, G, c⟩ := T.ex; exact He.SaysD.def_ (congrArg (fun z : He.AlT => z.1) c.t) 15 rfl
theorem Txt.d_While_init (T : Txt K mg) : ∃ fd, FunD K "__init__" "While.__init__" (defArgs s_While_init) (defBody s_While_init) (defScope s_While_init) [] [] (He.fAd K ("While", some "__init__")) fd := by obtain ⟨w, h, X, G, c⟩ := T.ex; exact He.SaysD.def_ (congrArg (fun z : He.AlT => z.1) c.t) 16 rfl
theorem Txt.d_Program_init (T : Txt K mg) : ∃ fd, FunD K "__init__" "Program.__init__" (defArgs s_Program_init) (defBody s_Program_init) (defScope s_Program_init) [] [] (He.fAd K ("Program", some "__init__")) fd := by obtain ⟨w, h, X, G, c⟩ := T.ex; exact He.SaysD.def_ (congrArg (fun z : He.AlT => z.1) c.t) 17 rfl
theorem Txt.d_programs_within (T : Txt K mg) : ∃ fd, FunD K "programs_within" "programs_within" (defArgs s_programs_within) (defBody s_programs_within) (defScope s_programs_within) [] [] (He.fAd K ("programs_within", none)) fd := by obtain ⟨w, h, X, G, c⟩ := T.ex; exact He.SaysD.def_ (congrArg (fun z : He.AlT => z.1) c.t) 18 rfl
theorem Txt.d_many_in (T : Txt K mg) : ∃ fd, FunD K "many_in" "many_in" (defArgs s_many_in) (defBody s_many_in) (defScope s_many_in) [] [] (He.fAd K ("many_in", none)) fd := by obtain ⟨w, h, X, G, c⟩ := T.ex; exact He.SaysD.def_ (congrArg (fun z : He.AlT => z.1) c.t) 19 rfl
theorem Txt.d_depth_of (T : Txt K mg) : ∃ fd, FunD K "depth_of" "depth_of" (defArgs s_depth_of) (defBody s_depth_of) (defScope s_depth_of) [] [] (He.fAd K ("depth_of", none)) fd := by obtain ⟨w, h, X, G, c⟩ := T.ex; exact He.SaysD.def_ (congrArg (fun z : He.AlT => z.1) c.t) 20 rfl
theorem Txt.d_l_state (T : Txt K mg) : ∃ fd, FunD K "_law_state" "_law_state" (defArgs s_l_state) (defBody s_l_state) (defScope s_l_state) [] [] (He.fAd K ("_law_state", none)) fd := by obtain ⟨w, h, X, G, c⟩ := T.ex; exact He.SaysD.def_ (congrArg (fun z : He.AlT => z.1) c.t) 21 rfl
theorem Txt.d_l_digit (T : Txt K mg) : ∃ fd, FunD K "_law_digit" "_law_digit" (defArgs s_l_digit) (defBody s_l_digit) (defScope s_l_digit) [] [] (He.fAd K ("_law_digit", none)) fd := by obtain ⟨w, h, X, G, c⟩ := T.ex; exact He.SaysD.def_ (congrArg (fun z : He.AlT => z.1) c.t) 22 rfl
theorem Txt.d_l_plain (T : Txt K mg) : ∃ fd, FunD K "_law_plain" "_law_plain" (defArgs s_l_plain) (defBody s_l_plain) (defScope s_l_plain) [] [] (He.fAd K ("_law_plain", none)) fd := by obtain ⟨w, h, X, G, c⟩ := T.ex; exact He.SaysD.def_ (congrArg (fun z : He.AlT => z.1) c.t) 23 rfl
theorem Txt.d_l_text (T : Txt K mg) : ∃ fd, FunD K "_law_text" "_law_text" (defArgs s_l_text) (defBody s_l_text) (defScope s_l_text) [] [] (He.fAd K ("_law_text", none)) fd := by obtain ⟨w, h, X, G, c⟩ := T.ex; exact He.SaysD.def_ (congrArg (fun z : He.AlT => z.1) c.t) 24 rfl
theorem Txt.d_l_is_name (T : Txt K mg) : ∃ fd, FunD K "_law_is_name" "_law_is_name" (defArgs s_l_is_name) (defBody s_l_is_name) (defScope s_l_is_name) [] [] (He.fAd K ("_law_is_name", none)) fd := by obtain ⟨w, h, X, G, c⟩ := T.ex; exact He.SaysD.def_ (congrArg (fun z : He.AlT => z.1) c.t) 25 rfl
theorem Txt.d_l_fields (T : Txt K mg) : ∃ fd, FunD K "_law_fields" "_law_fields" (defArgs s_l_fields) (defBody s_l_fields) (defScope s_l_fields) [] [] (He.fAd K ("_law_fields", none)) fd := by obtain ⟨w, h, X, G, c⟩ := T.ex; exact He.SaysD.def_ (congrArg (fun z : He.AlT => z.1) c.t) 26 rfl
theorem Txt.d_l_made (T : Txt K mg) : ∃ fd, FunD K "_law_made" "_law_made" (defArgs s_l_made) (defBody s_l_made) (defScope s_l_made) [] [] (He.fAd K ("_law_made", none)) fd := by obtain ⟨w, h, X, G, c⟩ := T.ex; exact He.SaysD.def_ (congrArg (fun z : He.AlT => z.1) c.t) 27 rfl
theorem Txt.d_l_found (T : Txt K mg) : ∃ fd, FunD K "_law_found" "_law_found" (defArgs s_l_found) (defBody s_l_found) (defScope s_l_found) [] [] (He.fAd K ("_law_found", none)) fd := by obtain ⟨w, h, X, G, c⟩ := T.ex; exact He.SaysD.def_ (congrArg (fun z : He.AlT => z.1) c.t) 28 rfl
theorem Txt.d_law (T : Txt K mg) : ∃ fd, FunD K "law" "law" (defArgs s_law) (defBody s_law) (defScope s_law) [] [] (He.fAd K ("law", none)) fd := by obtain ⟨w, h, X, G, c⟩ := T.ex; exact He.SaysD.def_ (congrArg (fun z : He.AlT => z.1) c.t) 29 rfl
end
local macro_rules | `(tactic| walk_at "s") => `(tactic| first
  | with_reducible refine s_seq ?_
  | with_reducible refine s_asg ?_
  | with_reducible refine s_gn ?_
  | ((with_reducible show tVar _ _ _ _); refine s_var rfl ?_)
  | with_reducible refine s_c ?_
  | with_reducible refine s_op ?_
  | with_reducible refine s_cons ?_
  | with_reducible refine s_nil ?_
  | with_reducible refine s_cb ?_
  | with_reducible refine s_call ?_
  | with_reducible refine s_ifS ?_
  | with_reducible refine s_ret ?_
  | with_reducible refine s_retN ?_
  | with_reducible refine s_drop ?_
  | with_reducible refine s_next ?_
  | with_reducible refine s_test ?_
  | with_reducible refine s_B ?_
  | with_reducible refine s_bl ?_
  | with_reducible refine s_ib ?_
  | with_reducible refine s_not ?_
  | with_reducible refine s_and ?_
  | with_reducible refine s_or ?_
  | with_reducible refine s_andV ?_
  | with_reducible refine s_orV ?_
  | with_reducible refine s_notV ?_
  | with_reducible refine s_ifE ?_
  | with_reducible refine s_un ?_
  | with_reducible refine s_tup ?_
  | with_reducible refine s_lst ?_
  | with_reducible refine s_chain ?_
  | with_reducible refine s_sl ?_
  | with_reducible refine s_no ?_
  | with_reducible refine s_part ?_
  | with_reducible refine s_fld ?_
  | with_reducible refine s_bm ?_
  | with_reducible refine s_I0 ?_
  | with_reducible refine s_addI ?_
  | with_reducible refine s_in1 ?_
  | with_reducible refine s_notin1 ?_
  | with_reducible refine s_for ?_
  | with_reducible refine s_gcons ?_
  | with_reducible refine s_gnil ?_
  | with_reducible refine s_enum ?_
  | with_reducible refine s_mkO ?_
  | with_reducible refine s_meth ?_
  | with_reducible refine s_make ?_
  | with_reducible refine s_gsub ?_
  | with_reducible refine s_rng1 ?_
  | with_reducible refine s_ckw ?_
  | with_reducible refine s_sfld ?_
  | with_reducible refine s_lc ?_
  | with_reducible refine iteT ?_
  | with_reducible refine iteF ?_
  | with_reducible refine iteNF ?_
  | with_reducible refine iteNT ?_)
local macro_rules | `(tactic| walk_at "go") => `(tactic| (walk_at "s"; repeat walk_at "s"))
local macro_rules | `(tactic| walk_at "new") => `(tactic| (intro p hp; generalize hH : upd _ p _ = H2; obtain ⟨s2, e2⟩ := new_facts hH hp; clear hH))
local macro_rules | `(tactic| walk_at "made") => `(tactic| (intro x dx nx nd ne; generalize hH : upd (upd _ dx _) x _ = H2; obtain ⟨s2, e2⟩ := made_facts hH nx nd ne; clear hH))
section
variable {P : Program} {w : World} {K : PySem.W.Frag} {mg : Str → Option Value} {base : Heap}
def fl1 (f : Str) : List V → Option (List (Str × V))
  | [v] => some [(f, v)]
  | _ => none
def fl2 (f f' : Str) : List V → Option (List (Str × V))
  | [v, v'] => some [(f', v'), (f, v)]
  | _ => none
theorem s_ost {te to : TE} {f : Str} {D : Ends} {σ : L2.St} {H : Hp} (k : te σ H fun y H1 => to σ H1 fun x H2 => ∃ a C : Addr, x = .ref a ∧ OexC K C ∧ PySem.W.findIn K (.ref C) f = some none ∧ ((H2 a = some (exo a C none) ∧ ∀ dx, H2 dx = none → dx ≠ a → D.nx σ (upd (upd H2 dx (exd dx [(f, y)])) a (exo a C (some dx)))) ∨
    ∃ (dx : Addr) (fs : List (Str × V)), H2 a = some (exo a C (some dx)) ∧ H2 dx = some (exd dx fs) ∧ fs.length ≤ 900 ∧ D.nx σ (upd H2 dx (exd dx ((f, y) :: fs))))) : tOst K f to te D σ H := k
theorem x_len1 {C : Addr} {f : Str} : ∀ vs H Q E, spX C (fl1 f) vs H Q E → vs.length = 2 := by
  rintro vs H Q E ⟨a, ws, fs, rfl, hf, _⟩
  match ws, hf with
  | [v], _ => rfl
theorem x_len2 {C : Addr} {f f' : Str} : ∀ vs H Q E, spX C (fl2 f f') vs H Q E → vs.length = 3 := by
  rintro vs H Q E ⟨a, ws, fs, rfl, hf, _⟩
  match ws, hf with
  | [v, v'], _ => rfl
theorem x_read1 {C : Addr} {f : Str} {N : List Str} (hN : N.length = 2) (T : OexC K C) (nf : PySem.W.findIn K (.ref C) f = some none) (vs : List V) (H : Hp) (Q : VK) (E : XK) (h : spX C (fl1 f) vs H Q E) :
    tOst K f (tVar 0) (tVar 1) { nx := fun _ H' => Q .non H', rt := Q } (start N vs) H := by
  obtain ⟨a, ws, fs, rfl, hf, ha, k⟩ := h
  match ws, hf with
  | [v], hf =>
    cases hf
    refine s_ost ⟨v, rfl, .ref a, rfl, a, C, rfl, T, nf, .inl ⟨ha, fun dx hx hne => ?_⟩⟩
    refine k dx _ hx hne ?_ upd_same fun b h1 h2 => by rw [upd_ne h1, upd_ne h2]
    rw [upd_ne hne, upd_same]
theorem x_read2 {C : Addr} {f f' : Str} {N : List Str} (hN : N.length = 3) (T : OexC K C) (nf : PySem.W.findIn K (.ref C) f = some none) (nf' : PySem.W.findIn K (.ref C) f' = some none) (vs : List V) (H : Hp) (Q : VK) (E : XK) (h : spX C (fl2 f f') vs H Q E) :
    tSeq (tOst K f (tVar 0) (tVar 1)) (tOst K f' (tVar 0) (tVar 2)) { nx := fun _ H' => Q .non H', rt := Q } (start N vs) H := by
  obtain ⟨a, ws, fs, rfl, hf, ha, k⟩ := h
  match ws, hf with
  | [v, v'], hf =>
    cases hf
    refine s_seq (s_ost ⟨v, rfl, .ref a, rfl, a, C, rfl, T, nf, .inl ⟨ha, fun dx hx hne => ?_⟩⟩)
    show tOst K f' (tVar 0) (tVar 2) _ _ _
    refine s_ost ?_
    refine ⟨v', rfl, .ref a, rfl, a, C, rfl, T, nf', .inr ⟨dx, [(f, v)], upd_same, (by rw [upd_ne hne, upd_same]), (by show 1 ≤ 900; decide), ?_⟩⟩
    refine k dx _ hx hne upd_same ?_ fun b h1 h2 => by rw [upd_ne h2, upd_ne h1, upd_ne h2]
    rw [upd_ne (Ne.symm hne), upd_same]
theorem x_NoName (T : Txt K mg) : Exk P w K mg base 1 "NoName" (He.ga K "NoName") (fl1 "name") := by
  obtain ⟨fd, F⟩ := T.d_NoName_init
  exact ⟨_, fd, _, T.x_NoName, T.xi_NoName, T.xt_NoName, F.ok sc_NoName_init x_len1 (fun cdv A outer s H vs Q E hr h => ⟨_, PSs.nox (pss_one (ps_ost (pv 0) (pv 1))), x_read1 rfl T.x_NoName.o T.na_NoName_name vs H Q E h⟩), T.g_NoName, F.bindsN fun _ _ _ _ _ _ us hl => match us, hl with | [_, _], _ => rfl⟩
theorem x_Twice (T : Txt K mg) : Exk P w K mg base 1 "Twice" (He.ga K "Twice") (fl1 "name") := by
  obtain ⟨fd, F⟩ := T.d_Twice_init
  exact ⟨_, fd, _, T.x_Twice, T.xi_Twice, T.xt_Twice, F.ok sc_Twice_init x_len1 (fun cdv A outer s H vs Q E hr h => ⟨_, PSs.nox (pss_one (ps_ost (pv 0) (pv 1))), x_read1 rfl T.x_Twice.o T.na_Twice_name vs H Q E h⟩), T.g_Twice, F.bindsN fun _ _ _ _ _ _ us hl => match us, hl with | [_, _], _ => rfl⟩
theorem x_NoCell (T : Txt K mg) : Exk P w K mg base 1 "NoCell" (He.ga K "NoCell") (fl1 "name") := by
  obtain ⟨fd, F⟩ := T.d_NoCell_init
  exact ⟨_, fd, _, T.x_NoCell, T.xi_NoCell, T.xt_NoCell, F.ok sc_NoCell_init x_len1 (fun cdv A outer s H vs Q E hr h => ⟨_, PSs.nox (pss_one (ps_ost (pv 0) (pv 1))), x_read1 rfl T.x_NoCell.o T.na_NoCell_name vs H Q E h⟩), T.g_NoCell, F.bindsN fun _ _ _ _ _ _ us hl => match us, hl with | [_, _], _ => rfl⟩
theorem x_BadCount (T : Txt K mg) : Exk P w K mg base 1 "BadCount" (He.ga K "BadCount") (fl2 "what" "count") := by
  obtain ⟨fd, F⟩ := T.d_BadCount_init
  exact ⟨_, fd, _, T.x_BadCount, T.xi_BadCount, T.xt_BadCount, F.ok sc_BadCount_init x_len2 (fun cdv A outer s H vs Q E hr h => ⟨_, PSs.nox (pss_cons (ps_ost (pv 0) (pv 1))
      (pss_one (ps_ost (pv 0) (pv 2)))), x_read2 rfl T.x_BadCount.o T.na_BadCount_what T.na_BadCount_count vs H Q E h⟩), T.g_BadCount, F.bindsN fun _ _ _ _ _ _ us hl => match us, hl with | [_, _, _], _ => rfl⟩
end
theorem err1_in {C : Addr} {f : Str} {v : V} {H : Hp} {E : XK} (e : Err1 C f v E H) : [v].length ≤ 1000 ∧ ∀ a, H a = none → spX C (fl1 f) (.ref a :: ([v] ++ [])) (upd H a (exo a C none)) (fun u H2 => u = .non ∧ ∃ (d : Addr) (fs : List (Str × V)), H2 a = some (exo a C (some d)) ∧ H2 d = some (exd d fs) ∧ H d = none ∧ E (.ref C) (some d) (upd (del H2 a) d (.xd fs))) (fun _ _ _ => False) :=
  mkA_in rfl (by show 1 ≤ 1000; decide) e
theorem err2_in {C : Addr} {f f' : Str} {v v' : V} {H : Hp} {E : XK} (e : Err2 C f f' v v' E H) : [v, v'].length ≤ 1000 ∧ ∀ a, H a = none → spX C (fl2 f f') (.ref a :: ([v, v'] ++ [])) (upd H a (exo a C none)) (fun u H2 => u = .non ∧ ∃ (d : Addr) (fs : List (Str × V)), H2 a = some (exo a C (some d)) ∧ H2 d = some (exd d fs) ∧ H d = none ∧ E (.ref C) (some d) (upd (del H2 a) d (.xd fs))) (fun _ _ _ => False) :=
  mkA_in rfl (by show 2 ≤ 1000; decide) e

section
variable {P : Program} {w : World} {K : PySem.W.Frag} {mg : Str → Option Value} {base : Heap}
def LETS : Str := "abcdefghijklmnopqrstuvwxyz"
def LFS : Str := "abcdefghijklmnopqrstuvwxyz0123456789"
/-- a name: 1 to 10 signs, a letter ahead -/
def isNm (l : List Nat) : Bool := decide (1 ≤ l.length) && decide (l.length ≤ 10) && (match l with | c :: _ => decide (c ∈ LETS.cps.toList) | [] => false) && l.all fun c => decide (c ∈ LFS.cps.toList)
theorem isNm_long {l : List Nat} (h : ¬ l.length ≤ 10) : isNm l = false := by simp only [isNm, decide_eq_false h, Bool.and_false, Bool.false_and]
theorem isNm_empty {l : List Nat} (h : ¬ 1 ≤ l.length) : isNm l = false := by simp only [isNm, decide_eq_false h, Bool.false_and]
theorem isNm_head {c : Nat} {r : List Nat} (h : ¬ c ∈ LETS.cps.toList) : isNm (c :: r) = false := by simp only [isNm, decide_eq_false h, Bool.and_false, Bool.false_and]
theorem isNm_all {c : Nat} {r : List Nat} (h1 : 1 ≤ (c :: r).length) (h2 : (c :: r).length ≤ 10) (h : c ∈ LETS.cps.toList) : isNm (c :: r) = (c :: r).all fun c => decide (c ∈ LFS.cps.toList) := by simp only [isNm, decide_eq_true h, decide_eq_true h1, decide_eq_true h2, Bool.true_and]
def sp_is_name : Sp := fun vs H Q _ => ∃ z : Str, vs = [.str z] ∧ z.length ≤ 100000 ∧ ∀ H', Same H H' → Q (.bl (isNm z.cps.toList)) H'
theorem c_is_name (T : Txt K mg) : Cal P w K mg base CX0 1 "is_name" sp_is_name := by
  obtain ⟨fd, F⟩ := T.d_is_name
  refine ⟨_, fd, _, F.ok sc_is_name (fun vs H Q E h => by obtain ⟨z, rfl, _⟩ := h; rfl) (fun cdv A outer s H vs Q E hr h => ?_), T.g_is_name, F.kp, F.bindsN fun _ _ _ _ _ _ us hl => match us, hl with | [_], _ => rfl⟩
  obtain ⟨z, rfl, hz, k⟩ := h
  refine ⟨_, PSs.nox (pss_cons (ps_if (PW.pt (pw_or (pt_not (pt_chain op_le op_le pe_int (pe_callB (oLen K) (by rfl) T.n_len PySem.boot_len (pa_cons (pv 0) pa_nil)) (C8.pe_gc rfl T.c_LONGEST_NAME))) (pw_or1 (pt_cmpR (oNotIn K) (pe_ix (oIx K) (pv 0) pe_int (fun _ _ => rfl)) (C8.pe_gc rfl T.c_LETTERS) (by rfl)))))
        (pss_one (ps_ret pe_bl))
        pss_nil)
      (pss_one (ps_ret (pe_callB (oAll K rfl) (by rfl) T.n_all (by decide +kernel) (pa_cons (pe_lc (own := [("sign", 1)]) rfl sc_is_name.nd (oIt K (pv 0)) (blkOk_by (N := ["text", "sign"]) (sc := defScope s_is_name) (by decide +kernel)) (fun _ _ _ _ _ => (pg_name (i := 1) sc_is_name.nd rfl (.inl rfl))) (fun _ _ _ _ _ => pts_nil) (fun _ _ _ _ _ => (pe_cmpR (oIn K) (pv 1) (C8.pe_gc rfl T.c_LETTERS_AND_FIGURES) (by rfl)))) pa_nil))))), ?_⟩
  have hz' : z.length ≤ sizeLine := line_of hz
  have zl : z.length = z.cps.toList.length := rfl
  walk_at "go"
  refine s_lenS hz' ?_
  walk_at "go"
  refine iteD (fun h1 => ?_) fun h1 => ?_
  · walk_at "go"
    refine iteN (fun h2 => ?_) fun h2 => ?_
    · walk_at "go"
      exact isNm_long (l := z.cps.toList) (by omega) ▸ k _ (Same.refl _)
    · obtain ⟨c, r, ec⟩ : ∃ c r, z.cps.toList = c :: r := by
        have : 1 ≤ z.cps.toList.length := by omega
        match q : z.cps.toList, this with
        | c :: r, _ => exact ⟨c, r, rfl⟩
      walk_at "go"
      refine s_ixS (c := c) hz' (by rw [ec]; exact atI0) ?_
      walk_at "go"
      rw [zl, ec] at h1 h2
      rw [ec] at k
      refine iteN (fun h3 => ?_) fun h3 => ?_
      · walk_at "go"
        exact isNm_head h3 ▸ k _ (Same.refl _)
      · walk_at "go"
        refine s_itS ?_
        walk_at "go"
        refine ⟨z, rfl, lc_all still_str (fun _ i y _ => ∃ c, z.cps.toList[i]? = some c ∧ y = .bl (decide (c ∈ LFS.cps.toList))) (by omega) (fun _ _ _ _ _ _ q => q) (fun D i x acc H' _ _ hx s1 _ Q' k' => ?_) (fun D ys H' _ s1 hy hl hr => ?_) gn_mono⟩
        · obtain ⟨c', hc', rfl⟩ := hx
          walk_at "go"
          refine ⟨rfl, ?_⟩
          walk_at "go"
          exact k' _ _ (Same.refl _) ⟨c', hc', rfl⟩
        · walk_at "go"
          have e : ys = (z.cps.toList.map fun c => decide (c ∈ LFS.cps.toList)).map V.bl := by
            rw [List.map_map]
            exact ge_map hl hr
          rw [e] at hy
          refine s_all (SqL.of hy) ?_
          have e2 : ((z.cps.toList.map fun c => decide (c ∈ LFS.cps.toList)).all id) = isNm (c :: r) := by
            rw [isNm_all (by omega) (by omega) h3, ec, List.all_map]
            rfl
          rw [e2]
          exact k _ s1
  · walk_at "go"
    have h1' : ¬ 1 ≤ z.cps.toList.length := by omega
    exact isNm_empty h1' ▸ k _ (Same.refl _)
/-- the first text that is no name -/
def badNm (zs : List Str) : Option Str := zs.find? fun z => !isNm z.cps.toList
theorem badNm_none {zs : List Str} {i : Nat} (h : ∀ j z, j < i → zs[j]? = some z → isNm z.cps.toList = true) (hl : zs.length ≤ i) : badNm zs = none := by
  refine List.find?_eq_none.mpr fun z hz => ?_
  obtain ⟨j, hj, e⟩ := List.mem_iff_getElem.mp hz
  rw [h j z (by omega) (by rw [List.getElem?_eq_getElem hj, e])]
  decide
theorem find_at {α : Type} {p : α → Bool} : ∀ {l : List α} {i : Nat} {x : α}, (∀ j y, j < i → l[j]? = some y → p y = false) → l[i]? = some x → p x = true → l.find? p = some x
  | [], i, x, _, h, _ => by simp at h
  | y :: r, 0, x, _, h, hp => by
    have e : y = x := by simpa using h
    subst e
    simp [List.find?, hp]
  | y :: r, i + 1, x, hb, h, hp => by
    have h0 := hb 0 y (Nat.succ_pos _) rfl
    rw [List.find?_cons, h0]
    exact find_at (fun j z hj e => hb (j + 1) z (Nat.succ_lt_succ hj) e) h hp
theorem badNm_at {zs : List Str} {i : Nat} {z : Str} (h : ∀ j y, j < i → zs[j]? = some y → isNm y.cps.toList = true) (e : zs[i]? = some z) (hz : isNm z.cps.toList = false) : badNm zs = some z :=
  find_at (fun j y hj ey => by rw [h j y hj ey]; rfl) e (by rw [hz]; rfl)
def Small (zs : List Str) : Prop := zs.length ≤ 100000 ∧ ∀ z ∈ zs, z.length ≤ 100000
def sp_need_names (K : PySem.W.Frag) : Sp := fun vs H Q E => ∃ (a : Addr) (zs : List Str), vs = [.ref a] ∧ SqL K H a (zs.map V.str) ∧ Small zs ∧ (badNm zs = none → ∀ H', Same H H' → Q .non H') ∧ ∀ z, badNm zs = some z → Err1 (He.ga K "NoName") "name" (.str z) E H
theorem at_map {zs : List Str} {i : Nat} {x : V} (h : (zs.map V.str)[i]? = some x) : ∃ z, zs[i]? = some z ∧ x = .str z := by
  rw [List.getElem?_map] at h
  cases e : zs[i]? with
  | none => rw [e] at h; cases h
  | some z => rw [e] at h; exact ⟨z, rfl, (Option.some.inj h).symm⟩
theorem c_need_names (T : Txt K mg) : Cal P w K mg base (L2.CX P w) 3 "need_names" (sp_need_names K) := by
  obtain ⟨fd, F⟩ := T.d_need_names
  refine ⟨_, fd, _, F.ok (k := 2) sc_need_names (fun vs H Q E h => by obtain ⟨a, zs, rfl, _⟩ := h; rfl) (fun cdv A outer s H vs Q E hr h => ?_), T.g_need_names, F.kp, F.bindsN fun _ _ _ _ _ _ us hl => match us, hl with | [_], _ => rfl⟩
  obtain ⟨a, zs, rfl, hS, ⟨hl, hz⟩, k, ke⟩ := h
  refine ⟨_, (pss_one (ps_for (passes_of rfl) rfl (oIt K (pv 0)) (pg_name (i := 1) sc_need_names.nd rfl (.inl rfl))
        (pss_one (ps_if (pt_not (pt_val (pe_c (c_is_name T) hr (by first | decide | omega) at0 rfl (pa_cons (pv 1) pa_nil))))
          (pss_one (ps_raise rfl (takes_of (E := E) rfl rfl rfl rfl) (pmk_A (x_NoName T) hr (by first | decide | omega) rfl (pa_cons (pv 1) pa_nil))))
          pss_nil)))), ?_⟩
  walk_at "go"
  refine s_itL ?_
  walk_at "go"
  refine ⟨a, rfl, ⟨_, hS⟩, for_all (still_list hS) (fun i σ _ => (∃ v, σ = [some (.ref a), v]) ∧ ∀ j z, j < i → zs[j]? = some z → isNm z.cps.toList = true) (fun _ _ _ _ _ q => q) ⟨⟨none, rfl⟩, fun j z h => absurd h (Nat.not_lt_zero j)⟩ (fun i x σ' H' hi hx s1 hp => ?_) fun σ' H' s1 hp => ?_⟩
  · obtain ⟨⟨v, rfl⟩, hp⟩ := hp
    obtain ⟨z, ez, rfl⟩ := at_map hx
    walk_at "go"
    refine ⟨z, rfl, hz z (List.mem_of_getElem? ez), fun H2 s2 => ?_⟩
    walk_at "go"
    cases e : isNm z.cps.toList with
    | false =>
      walk_at "go"
      exact err1_in ((ke z (badNm_at hp ez e)).mono (s1.trans s2))
    | true =>
      walk_at "go"
      refine ⟨s1.trans s2, ⟨_, rfl⟩, fun j y hj ey => ?_⟩
      by_cases hji : j = i
      · subst hji
        rw [ez] at ey; cases ey; exact e
      · exact hp j y (by omega) ey
  · refine k (badNm_none hp.2 (by rw [List.length_map]; exact Nat.le_refl _)) _ s1
/-- the first text that stands ahead of itself -/
def dupNm (zs : List Str) : Option Str := ((List.range zs.length).find? fun i => match zs[i]? with | some z => decide (z ∈ zs.take i) | none => false).bind fun i => zs[i]?
def sp_need_once (K : PySem.W.Frag) : Sp := fun vs H Q E => ∃ (a : Addr) (zs : List Str), vs = [.ref a] ∧ SqL K H a (zs.map V.str) ∧ zs.length ≤ 100000 ∧ (dupNm zs = none → ∀ H', Same H H' → Q .non H') ∧ ∀ z, dupNm zs = some z → Err1 (He.ga K "Twice") "name" (.str z) E H
theorem dupNm_none {zs : List Str} (h : ∀ j z, zs[j]? = some z → z ∉ zs.take j) : dupNm zs = none := by
  unfold dupNm
  rw [List.find?_eq_none.mpr fun i hi => ?_]
  · rfl
  · have hi' : i < zs.length := List.mem_range.mp hi
    rw [List.getElem?_eq_getElem hi']
    simpa using h i zs[i] (List.getElem?_eq_getElem hi')
theorem dupNm_at {zs : List Str} {i : Nat} {z : Str} (h : ∀ j y, j < i → zs[j]? = some y → y ∉ zs.take j) (e : zs[i]? = some z) (hz : z ∈ zs.take i) : dupNm zs = some z := by
  unfold dupNm
  have hi : i < zs.length := (List.getElem?_eq_some_iff.mp e).1
  rw [find_at (i := i) (x := i) (fun j y hj ey => ?_) (by rw [List.getElem?_range hi]) (by rw [e]; exact decide_eq_true hz)]
  · exact e
  · have hj' : j < zs.length := by omega
    rw [List.getElem?_range hj'] at ey
    cases ey
    rw [List.getElem?_eq_getElem hj']
    exact decide_eq_false (h j zs[j] hj (List.getElem?_eq_getElem hj'))
theorem c_need_once (T : Txt K mg) : Cal P w K mg base (L2.CX P w) 3 "need_once" (sp_need_once K) := by
  obtain ⟨fd, F⟩ := T.d_need_once
  refine ⟨_, fd, _, F.ok (k := 2) sc_need_once (fun vs H Q E h => by obtain ⟨a, zs, rfl, _⟩ := h; rfl) (fun cdv A outer s H vs Q E hr h => ?_), T.g_need_once, F.kp, F.bindsN fun _ _ _ _ _ _ us hl => match us, hl with | [_], _ => rfl⟩
  obtain ⟨a, zs, rfl, hS, hl, k, ke⟩ := h
  refine ⟨_, (pss_one (ps_for (passes_of rfl) rfl (oEnum K (by rfl) T.n_enumerate (pa_cons (pv 0) pa_nil)) (oTup K (n := 2) rfl (pgs_cons (pg_name (i := 1) sc_need_once.nd rfl (.inl rfl)) (pgs_cons (pg_name (i := 2) sc_need_once.nd rfl (.inl rfl)) pgs_nil)))
        (pss_one (ps_if (pt_cmpR (oIn K) (pv 2) (pe_slice (oSl K) (pv 0) po_none (po_some (pv 1))) (by rfl))
          (pss_one (ps_raise rfl (takes_of (E := E) rfl rfl rfl rfl) (pmk_A (x_Twice T) hr (by first | decide | omega) rfl (pa_cons (pv 2) pa_nil))))
          pss_nil)))), ?_⟩
  walk_at "go"
  refine ⟨a, _, rfl, hS, for_all (still_enum hS) (fun i σ _ => (∃ u v, σ = [some (.ref a), u, v]) ∧ ∀ j z, j < i → zs[j]? = some z → z ∉ zs.take j) (fun _ _ _ _ _ q => q) ⟨⟨none, none, rfl⟩, fun j z h => absurd h (Nat.not_lt_zero j)⟩ (fun i x σ' H' hi hx s1 hp => ?_) fun σ' H' s1 hp => ?_⟩
  · obtain ⟨⟨u, v, rfl⟩, hp⟩ := hp
    obtain ⟨t, y, rfl, ht, hy⟩ := hx
    obtain ⟨z, ez, rfl⟩ := at_map hy
    refine s_gT (.inl (.inl ht)) rfl ?_
    walk_at "go"
    refine s_slL (s1.seq hS) fun p hp' => ?_
    rw [cut_to, ← List.map_take]
    refine s_inL (SqL.of upd_same) rfl (flat_strs _) ?_
    rw [inV_strs]
    walk_at "go"
    have s2 := s1.trans (same_new (o := HO.lst ((zs.take i).map V.str)) hp')
    refine iteD (fun h1 => ?_) fun h1 => ?_
    · walk_at "go"
      exact err1_in ((ke z (dupNm_at hp ez h1)).mono s2)
    · walk_at "go"
      refine ⟨s2, ⟨_, _, rfl⟩, fun j y hj ey => ?_⟩
      by_cases hji : j = i
      · subst hji
        rw [ez] at ey; cases ey; exact h1
      · exact hp j y (by omega) ey
  · refine k (dupNm_none fun j z ez => hp.2 j z ?_ ez) _ s1
    rw [List.length_map]
    exact (List.getElem?_eq_some_iff.mp ez).1
def sp_need_count (K : PySem.W.Frag) : Sp := fun vs H Q E => ∃ (w : Str) (n lo hi : Int), vs = [.str w, .int n, .int lo, .int hi] ∧ (lo ≤ n ∧ n ≤ hi → ∀ H', Same H H' → Q .non H') ∧ (¬ (lo ≤ n ∧ n ≤ hi) → Err2 (He.ga K "BadCount") "what" "count" (.str w) (.int n) E H)
theorem c_need_count (T : Txt K mg) : Cal P w K mg base (L2.CX P w) 3 "need_count" (sp_need_count K) := by
  obtain ⟨fd, F⟩ := T.d_need_count
  refine ⟨_, fd, _, F.ok (k := 2) sc_need_count (fun vs H Q E h => by obtain ⟨_, _, _, _, rfl, _⟩ := h; rfl) (fun cdv A outer s H vs Q E hr h => ?_), T.g_need_count, F.kp, F.bindsN fun _ _ _ _ _ _ us hl => match us, hl with | [_, _, _, _], _ => rfl⟩
  obtain ⟨w', n, lo, hi, rfl, k, ke⟩ := h
  refine ⟨_, (pss_one (ps_if (pt_not (pt_chain op_le op_le (pv 2) (pv 1) (pv 3)))
        (pss_one (ps_raise rfl (takes_of (E := E) rfl rfl rfl rfl) (pmk_A (x_BadCount T) hr (by first | decide | omega) rfl (pa_cons (pv 0) (pa_cons (pv 1) pa_nil)))))
        pss_nil)), ?_⟩
  walk_at "go"
  refine iteD (fun h1 => ?_) fun h1 => ?_
  · walk_at "go"
    refine iteN (fun h2 => ?_) fun h2 => ?_
    · walk_at "go"
      exact err2_in (ke fun h => h2 h.2)
    · walk_at "go"
      exact k ⟨h1, h2⟩ _ (Same.refl _)
  · walk_at "go"
    exact err2_in (ke fun h => h1 h.1)
def sp_need_values (K : PySem.W.Frag) : Sp := fun vs H Q E => ∃ (a : Addr) (zs : List Str), vs = [.ref a] ∧ SqL K H a (zs.map V.str) ∧ Small zs ∧
  (¬ (2 ≤ zs.length ∧ zs.length ≤ 4) → Err2 (He.ga K "BadCount") "what" "count" (.str "values") (.int zs.length) E H) ∧
  (2 ≤ zs.length ∧ zs.length ≤ 4 → (∀ z, badNm zs = some z → Err1 (He.ga K "NoName") "name" (.str z) E H) ∧
    (badNm zs = none → (∀ z, dupNm zs = some z → Err1 (He.ga K "Twice") "name" (.str z) E H) ∧ (dupNm zs = none → ∀ H', Same H H' → Q .non H')))
theorem c_need_values (T : Txt K mg) : Cal P w K mg base (L2.CX P w) 4 "need_values" (sp_need_values K) := by
  obtain ⟨fd, F⟩ := T.d_need_values
  refine ⟨_, fd, _, F.ok (k := 3) sc_need_values (fun vs H Q E h => by obtain ⟨_, _, rfl, _⟩ := h; rfl) (fun cdv A outer s H vs Q E hr h => ?_), T.g_need_values, F.kp, F.bindsN fun _ _ _ _ _ _ us hl => match us, hl with | [_], _ => rfl⟩
  obtain ⟨a, zs, rfl, hS, hz, k0, k⟩ := h
  refine ⟨_, (pss_cons (ps_expr (pe_c (c_need_count T) hr (by first | decide | omega) (atW (takes_of (E := E) rfl rfl rfl rfl)) rfl (pa_cons pe_str (pa_cons (pe_callB (oLen K) (by rfl) T.n_len PySem.boot_len (pa_cons (pv 0) pa_nil)) (pa_cons pe_int (pa_cons pe_int pa_nil))))))
      (pss_cons (ps_expr (pe_c (c_need_names T) hr (by first | decide | omega) (atW (takes_of (E := E) rfl rfl rfl rfl)) rfl (pa_cons (pv 0) pa_nil)))
      (pss_one (ps_expr (pe_c (c_need_once T) hr (by first | decide | omega) (atW (takes_of (E := E) rfl rfl rfl rfl)) rfl (pa_cons (pv 0) pa_nil)))))), ?_⟩
  walk_at "go"
  refine s_lenL hS ?_
  walk_at "go"
  rw [List.length_map]
  refine ⟨_, _, _, _, rfl, fun h1 H1 s1 => ?_, fun h1 => k0 fun h => h1 ⟨by omega, by omega⟩⟩
  have k := k ⟨by omega, by omega⟩
  walk_at "go"
  refine ⟨a, zs, rfl, s1.seq hS, hz, fun h2 H2 s2 => ?_, fun z h2 => (k.1 z h2).mono s1⟩
  have k := k.2 h2
  walk_at "go"
  refine ⟨a, zs, rfl, (s1.trans s2).seq hS, hz.1, fun h3 H3 s3 => ?_, fun z h3 => (k.1 z h3).mono (s1.trans s2)⟩
  exact k.2 h3 _ ((s1.trans s2).trans s3)
end

section
variable {P : Program} {w : World} {K : PySem.W.Frag} {mg : Str → Option Value} {base : Heap}
/-- why something is refused -/
inductive Rf where
  | count (w : Str) (n : Int)
  | noName (z : Str)
  | twice (z : Str)
def Ra (K : PySem.W.Frag) (E : XK) (H : Hp) : Rf → Prop
  | .count w n => Err2 (He.ga K "BadCount") "what" "count" (.str w) (.int n) E H
  | .noName z => Err1 (He.ga K "NoName") "name" (.str z) E H
  | .twice z => Err1 (He.ga K "Twice") "name" (.str z) E H
theorem Ra.mono {E : XK} {H H' : Hp} (s : Same H H') : ∀ {r : Rf}, Ra K E H r → Ra K E H' r
  | .count _ _, h => Err2.mono h s
  | .noName _, h => Err1.mono h s
  | .twice _, h => Err1.mono h s
/-- a cell, its name and its values -/
abbrev Ce := Str × List Str
def valuesRf (vs : List Str) : Option Rf := if 2 ≤ vs.length ∧ vs.length ≤ 4 then (match badNm vs with | some z => some (.noName z) | none => (dupNm vs).map .twice) else some (.count "values" vs.length)
def cellRf (c : Ce) : Option Rf := if isNm c.1.cps.toList then valuesRf c.2 else some (.noName c.1)
def boardRf (cs : List Ce) : Option Rf := if 1 ≤ cs.length ∧ cs.length ≤ 3 then (match cs.findSome? cellRf with | some r => some r | none => (dupNm (cs.map (·.1))).map .twice) else some (.count "cells" cs.length)
def PairL (K : PySem.W.Frag) (a : Addr) (c : Ce) (H : Hp) : Prop := ∃ l, SqT K H a [.str c.1, .ref l] ∧ SqL K H l (c.2.map V.str)
def PairT (K : PySem.W.Frag) (a : Addr) (c : Ce) (H : Hp) : Prop := ∃ l, SqT K H a [.str c.1, .ref l] ∧ SqT K H l (c.2.map V.str)
theorem PairL.mono {a : Addr} {c : Ce} {H H' : Hp} (s : Same H H') : PairL K a c H → PairL K a c H' := fun ⟨l, h1, h2⟩ => ⟨l, same_t s h1, s.seq h2⟩
theorem PairT.mono {a : Addr} {c : Ce} {H H' : Hp} (s : Same H H') : PairT K a c H → PairT K a c H' := fun ⟨l, h1, h2⟩ => ⟨l, same_t s h1, same_t s h2⟩
def CellsOk (cs : List Ce) : Prop := cs.length ≤ 100000 ∧ ∀ c ∈ cs, c.1.length ≤ 100000 ∧ Small c.2
/-- a Board at x: its tuple of pairs of a name and a tuple of values -/
def BoardAt (K : PySem.W.Frag) (x : Addr) (cs : List Ce) (H : Hp) : Prop := ∃ dx t as, H x = some (.ins (He.ga K "Board") dx [("_cells", .ref t)]) ∧ SqT K H t (as.map V.ref) ∧ AllAt (PairT K) H as cs
def sp_Board_init (K : PySem.W.Frag) : Sp := fun vs H Q E => ∃ (x a : Addr) (dx : Addr) (as : List Addr) (cs : List Ce), vs = [.ref x, .ref a] ∧ H x = some (.ins (He.ga K "Board") dx []) ∧ SqL K H a (as.map V.ref) ∧ AllAt (PairL K) H as cs ∧ CellsOk cs ∧
  (∀ r, boardRf cs = some r → Ra K E H r) ∧ (boardRf cs = none → ∀ H', BoardAt K x cs H' → (∀ b o, H b = some o → b ≠ x → H' b = some o) → Q .non H')
theorem sqT_ne {H : Hp} {x a : Addr} {xs : List V} {C dx : Addr} {fs : List (Str × V)} (h : SqT K H a xs) (hx : H x = some (.ins C dx fs)) (y : HO) : SqT K (upd H x y) a xs := by
  rcases h with (h | ⟨ob, h⟩) | h
  · have : a ≠ x := ne_of h hx (by intro q; cases q)
    exact .inl (.inl (by rw [upd_ne this]; exact h))
  · have : a ≠ x := ne_of h hx (by intro q; cases q)
    exact .inl (.inr ⟨ob, by rw [upd_ne this]; exact h⟩)
  · exact .inr h
theorem mk_Board (T : Txt K mg) : Mak P w K mg base (L2.CX P w) 5 "Board" (He.ga K "Board") (sp_Board_init K) := by
  obtain ⟨fd, F⟩ := T.d_Board_init
  refine ⟨_, fd, _, T.mk_Board, F.ok (k := 4) sc_Board_init (fun vs H Q E h => by obtain ⟨_, _, _, _, _, rfl, _⟩ := h; rfl) (fun cdv A outer s H vs Q E hr h => ?_), T.g_Board, F.bindsN fun _ _ _ _ _ _ us hl => match us, hl with | [_, _], _ => rfl⟩
  obtain ⟨x, a, dx, as, cs, rfl, hx, hS, hA, ⟨hl, hc⟩, ke, k⟩ := h
  refine ⟨_, (pss_cons (ps_expr (pe_c (c_need_count T) hr (by first | decide | omega) (atW (takes_of (E := E) rfl rfl rfl rfl)) rfl (pa_cons pe_str (pa_cons (pe_callB (oLen K) (by rfl) T.n_len PySem.boot_len (pa_cons (pv 1) pa_nil)) (pa_cons pe_int (pa_cons pe_int pa_nil))))))
      (pss_cons (ps_for (passes_of rfl) rfl (oIt K (pv 1)) (oTup K (n := 2) rfl (pgs_cons (pg_name (i := 2) sc_Board_init.nd rfl (.inl rfl)) (pgs_cons (pg_name (i := 3) sc_Board_init.nd rfl (.inl rfl)) pgs_nil)))
        (pss_cons (ps_expr (pe_c (c_need_names T) hr (by first | decide | omega) (atW (takes_of (E := E) rfl rfl rfl rfl)) rfl (pa_cons (pe_lst (pa_cons (pv 2) pa_nil)) pa_nil)))
        (pss_one (ps_expr (pe_c (c_need_values T) hr (by first | decide | omega) (atW (takes_of (E := E) rfl rfl rfl rfl)) rfl (pa_cons (pv 3) pa_nil))))))
      (pss_cons (ps_expr (pe_c (c_need_once T) hr (by first | decide | omega) (atW (takes_of (E := E) rfl rfl rfl rfl)) rfl (pa_cons (pe_lc (own := [("name", 2), ("_", 4)]) rfl sc_Board_init.nd (oIt K (pv 1)) (blkOk_by (N := ["self", "cells", "name", "values", "_"]) (sc := defScope s_Board_init) (by decide +kernel)) (fun _ _ _ _ _ => (oTup K (n := 2) rfl (pgs_cons (pg_name (i := 2) sc_Board_init.nd rfl (.inl rfl)) (pgs_cons (pg_name (i := 4) sc_Board_init.nd rfl (.inl rfl)) pgs_nil)))) (fun _ _ _ _ _ => pts_nil) (fun _ _ _ _ _ => (pv 2))) pa_nil)))
      (pss_one (ps_fld (pv 0) (pe_callTy (oTuple K) (by rfl) T.n_tuple (by decide +kernel) (pa_cons (pe_lc (own := [("name", 2), ("values", 3)]) rfl sc_Board_init.nd (oIt K (pv 1)) (blkOk_by (N := ["self", "cells", "name", "values", "_"]) (sc := defScope s_Board_init) (by decide +kernel)) (fun _ _ _ _ _ => (oTup K (n := 2) rfl (pgs_cons (pg_name (i := 2) sc_Board_init.nd rfl (.inl rfl)) (pgs_cons (pg_name (i := 3) sc_Board_init.nd rfl (.inl rfl)) pgs_nil)))) (fun _ _ _ _ _ => pts_nil) (fun _ _ _ _ _ => (pe_tup (pa_cons (pv 2) (pa_cons (pe_callTy (oTuple K) (by rfl) T.n_tuple (by decide +kernel) (pa_cons (pv 3) pa_nil)) pa_nil))))) pa_nil)) rfl))))), ?_⟩
  walk_at "go"
  refine s_lenL hS ?_
  walk_at "go"
  rw [List.length_map, hA.1]
  refine ⟨_, _, _, _, rfl, fun h1 H1 s1 => ?_, fun h1 => ke (.count "cells" cs.length) (if_neg fun h => h1 ⟨by omega, by omega⟩)⟩
  have h1' : 1 ≤ cs.length ∧ cs.length ≤ 3 := ⟨by omega, by omega⟩
  walk_at "go"
  refine s_itL ?_
  walk_at "go"
  refine ⟨a, rfl, ⟨_, s1.seq hS⟩, for_all (still_list (s1.seq hS)) (fun i σ _ => (∃ u v, σ = [some (.ref x), some (.ref a), u, v, none]) ∧ ∀ j c, j < i → cs[j]? = some c → cellRf c = none) (fun _ _ _ _ _ q => q) ⟨⟨none, none, rfl⟩, fun j z h => absurd h (Nat.not_lt_zero j)⟩ (fun i y σ' H' hi hy s2 hp => ?_) fun σ' H' s2 hp => ?_⟩
  · obtain ⟨⟨u, v, rfl⟩, hp⟩ := hp
    obtain ⟨r, c, er, rfl, ec, l, hr1, hr2⟩ := hA.get hy
    have hcc := hc c (List.mem_of_getElem? ec)
    have bad : ∀ rf, cellRf c = some rf → Ra K E H rf := fun rf e => ke rf (by
      unfold boardRf; rw [if_pos h1', findSome_at hp ec e])
    have s02 := s1.trans s2
    refine s_gT (same_t s02 hr1) rfl ?_
    walk_at "go"
    refine ⟨by show 1 ≤ sizeLine; decide, fun p hp' => ?_⟩
    walk_at "go"
    have s3 := s02.trans (same_new (o := HO.lst [V.str c.1]) hp')
    refine ⟨p, [c.1], rfl, SqL.of upd_same, ⟨by show 1 ≤ 100000; decide, fun z hz => by rw [List.mem_singleton.mp hz]; exact hcc.1⟩, fun h2 H3 s4 => ?_, fun z h2 => ?_⟩
    · have nm : isNm c.1.cps.toList = true := by
        have := List.find?_eq_none.mp h2 c.1 (List.mem_singleton.mpr rfl)
        simpa using this
      have ev : cellRf c = valuesRf c.2 := if_pos nm
      walk_at "go"
      have s5 := s3.trans s4
      refine ⟨l, c.2, rfl, s5.seq hr2, hcc.2, fun h3 => (bad (.count "values" c.2.length) (by rw [ev]; exact if_neg h3)).mono s5, fun h3 => ⟨fun z h4 => (bad (.noName z) (by rw [ev]; unfold valuesRf; rw [if_pos h3, h4])).mono s5, fun h4 => ⟨fun z h5 => (bad (.twice z) (by rw [ev]; unfold valuesRf; rw [if_pos h3, h4]; simp only [h5, Option.map_some])).mono s5, fun h5 H4 s6 => ?_⟩⟩⟩
      have e0 : cellRf c = none := by rw [ev]; unfold valuesRf; rw [if_pos h3, h4]; simp only [h5, Option.map_none]
      refine ⟨s2.trans ((same_new hp').trans (s4.trans s6)), ⟨_, _, rfl⟩, fun j c' hj ej => ?_⟩
      by_cases hji : j = i
      · subst hji
        rw [ec] at ej; cases ej; exact e0
      · exact hp j c' (by omega) ej
    · have e : z = c.1 := by
        have := List.mem_of_find?_eq_some h2
        exact List.mem_singleton.mp this
      have nm : isNm c.1.cps.toList = false := by
        have := List.find?_some h2
        rw [e] at this; simpa using this
      subst e
      exact (bad (.noName c.1) (by unfold cellRf; rw [nm]; rfl)).mono s3
  · obtain ⟨⟨u, v, rfl⟩, hp⟩ := hp
    have no : cs.findSome? cellRf = none := findSome_no fun j c e => hp j c (by rw [List.length_map, hA.1]; exact (List.getElem?_eq_some_iff.mp e).1) e
    have s02 := s1.trans s2
    walk_at "go"
    refine s_itL ?_
    walk_at "go"
    refine ⟨a, rfl, ⟨_, s02.seq hS⟩, lc_all (still_list (s02.seq hS)) (fun _ i y _ => ∃ z, (cs.map (·.1))[i]? = some z ∧ y = .str z) (by rw [List.length_map, hA.1]; omega) (fun _ _ _ _ _ _ q => q) (fun D i y acc H3 _ _ hy s3 _ Q' k' => ?_) (fun D ys H3 _ s3 hy hyl hyr => ?_) (tg_mono (tgc_mono (tgc_mono tgn_mono)))⟩
    · obtain ⟨r, c, er, rfl, ec, l, hr1, hr2⟩ := hA.get hy
      refine s_gT (same_t (s02.trans s3) hr1) rfl ?_
      walk_at "go"
      refine ⟨rfl, ?_⟩
      walk_at "go"
      exact k' _ _ (Same.refl _) ⟨c.1, by rw [List.getElem?_map, ec]; rfl, rfl⟩
    · walk_at "go"
      have ey : ys = (cs.map (·.1)).map V.str := ge_map (by rw [hyl, List.length_map, List.length_map, hA.1]) hyr
      rw [ey] at hy
      have s03 := s02.trans s3
      refine ⟨D, cs.map (·.1), rfl, SqL.of hy, by rw [List.length_map]; exact hl, fun h4 H4 s4 => ?_, fun z h4 => (ke (.twice z) (by unfold boardRf; rw [if_pos h1', no]; simp only [h4, Option.map_some])).mono s03⟩
      have no2 : boardRf cs = none := by unfold boardRf; rw [if_pos h1', no]; simp only [h4, Option.map_none]
      have s04 := s03.trans s4
      walk_at "go"
      refine s_itL ?_
      walk_at "go"
      refine ⟨a, rfl, ⟨_, s04.seq hS⟩, lc_all (still_list (s04.seq hS)) (fun D i y H' => ∃ q c, y = .ref q ∧ cs[i]? = some c ∧ q ≠ D ∧ ∃ l, l ≠ D ∧ H' q = some (.tup [.str c.1, .ref l]) ∧ H' l = some (.tup (c.2.map V.str))) (by rw [List.length_map, hA.1]; omega) (fun D i y H1 H2 m q => ?_) (fun D i y acc H5 hD _ hy s5 hacc Q' k' => ?_) (fun D ys H5 _ s5 hy hyl hyr => ?_) (tg_mono (tgc_mono (tgc_mono tgn_mono)))⟩
      · obtain ⟨q, c, e1, e2, e3, l, e4, e5, e6⟩ := q
        exact ⟨q, c, e1, e2, e3, l, e4, m _ _ e3 e5, m _ _ e4 e6⟩
      · obtain ⟨r, c, er, rfl, ec, l, hr1, hr2⟩ := hA.get hy
        refine s_gT (same_t (s04.trans s5) hr1) rfl ?_
        walk_at "go"
        refine ⟨rfl, ?_⟩
        walk_at "go"
        refine s_tupL ((s04.trans s5).seq hr2) fun l' hl' => ?_
        walk_at "go"
        refine ⟨by show 2 ≤ sizeLine; decide, fun q hq => ?_⟩
        have n1 : D ≠ l' := ne_of_none hacc hl'
        have n2 : D ≠ q := ne_of_none (up hl' hacc) hq
        exact k' _ _ ((same_new hl').trans (same_new hq)) ⟨q, c, rfl, ec, n2.symm, l', n1.symm, upd_same, up hq upd_same⟩
      · walk_at "go"
        have s05 := s04.trans s5
        obtain ⟨as', ey, hA'⟩ := allAt_of (R := PairT K) (H := H5) (xs := cs) (by rw [hyl, List.length_map, hA.1]) fun i y e => by
          obtain ⟨q, c, e1, e2, e3, l, e4, e5, e6⟩ := hyr i y e
          exact ⟨q, c, e1, e2, l, .inl (.inl e5), .inl (.inl e6)⟩
        rw [ey] at hy
        refine s_tupL (SqL.of hy) fun t ht => ?_
        walk_at "go"
        have s06 := s05.trans (same_new (o := HO.tup (as'.map V.ref)) ht)
        have hx6 := s06 _ _ hx
        refine ⟨x, _, dx, [], rfl, hx6, T.cl_Board, T.na_Board__cells, by decide, ?_⟩
        refine k no2 _ ⟨dx, t, as', upd_same, sqT_ne (.inl (.inl upd_same)) hx6 _, hA'.mono fun b c ⟨l, q1, q2⟩ => ⟨l, ?_, ?_⟩⟩ fun b o e hb => ?_
        · exact sqT_ne (same_t (same_new ht) q1) hx6 _
        · exact sqT_ne (same_t (same_new ht) q2) hx6 _
        · rw [upd_ne hb]; exact s06 _ _ e
end
section
variable {P : Program} {w : World} {K : PySem.W.Frag} {mg : Str → Option Value} {base : Heap}
theorem BoardAt.mono {x : Addr} {cs : List Ce} {H H' : Hp} (s : Same H H') : BoardAt K x cs H → BoardAt K x cs H' := fun ⟨dx, t, as, h1, h2, h3⟩ => ⟨dx, t, as, s _ _ h1, same_t s h2, h3.mono fun _ _ => PairT.mono s⟩
theorem lk1 {f : Str} {v : V} : [(f, v)].lookup f = some v := by simp [List.lookup]
def sp_Board_cells (K : PySem.W.Frag) : Sp := fun vs H Q _ => ∃ (x : Addr) (cs : List Ce), vs = [.ref x] ∧ BoardAt K x cs H ∧ cs.length ≤ 100000 ∧ ∀ l H', H l = none → Same H H' → H' l = some (.lst ((cs.map (·.1)).map V.str)) → Q (.ref l) H'
theorem c_Board_cells (T : Txt K mg) : Met P w K mg base CX0 1 (He.ga K "Board") "cells" (sp_Board_cells K) := by
  obtain ⟨fd, F⟩ := T.d_Board_cells
  refine ⟨_, fd, _, T.cl_Board, T.mt_Board_cells, F.ok (k := 0) sc_Board_cells (fun vs H Q E h => by obtain ⟨_, _, rfl, _⟩ := h; rfl) (fun cdv A outer s H vs Q E hr h => ?_), F.bindsN fun _ _ _ _ _ _ us hl => match us, hl with | [_], _ => rfl⟩
  obtain ⟨x, cs, rfl, ⟨dx, t, as, hx, ht, hA⟩, hl, k⟩ := h
  refine ⟨_, PSs.nox (pss_one (ps_ret (pe_lc (own := [("name", 1), ("_", 2)]) rfl sc_Board_cells.nd (oIt K (oFld K (pv 0))) (blkOk_by (N := ["self", "name", "_"]) (sc := defScope s_Board_cells) (by decide +kernel)) (fun _ _ _ _ _ => (oTup K (n := 2) rfl (pgs_cons (pg_name (i := 1) sc_Board_cells.nd rfl (.inl rfl)) (pgs_cons (pg_name (i := 2) sc_Board_cells.nd rfl (.inl rfl)) pgs_nil)))) (fun _ _ _ _ _ => pts_nil) (fun _ _ _ _ _ => (pv 1))))), ?_⟩
  walk_at "go"
  refine s_itT ?_
  walk_at "go"
  refine ⟨x, _, dx, _, _, rfl, hx, T.cl_Board, T.na_Board__cells, lk1, t, rfl, ⟨_, ht⟩, lc_all (still_tup ht) (fun _ i y _ => ∃ z, (cs.map (·.1))[i]? = some z ∧ y = .str z) (by rw [List.length_map, hA.1]; omega) (fun _ _ _ _ _ _ q => q) (fun D i y acc H3 _ _ hy s3 _ Q' k' => ?_) (fun D ys H3 hD s3 hy hyl hyr => ?_) (tg_mono (tgc_mono (tgc_mono tgn_mono)))⟩
  · obtain ⟨r, c, er, rfl, ec, l, hr1, hr2⟩ := hA.get hy
    refine s_gT (same_t s3 hr1) rfl ?_
    walk_at "go"
    refine ⟨rfl, ?_⟩
    walk_at "go"
    exact k' _ _ (Same.refl _) ⟨c.1, by rw [List.getElem?_map, ec]; rfl, rfl⟩
  · have ey : ys = (cs.map (·.1)).map V.str := ge_map (by rw [hyl, List.length_map, List.length_map, hA.1]) hyr
    rw [ey] at hy
    exact k D H3 hD s3 hy
def cellOf (cs : List Ce) (n : Str) : Option Ce := cs.find? fun c => decide (c.1 = n)
def sp_Board_values_of (K : PySem.W.Frag) : Sp := fun vs H Q E => ∃ (x : Addr) (cs : List Ce) (n : Str), vs = [.ref x, .str n] ∧ BoardAt K x cs H ∧ cs.length ≤ 100000 ∧
  (cellOf cs n = none → Err1 (He.ga K "NoCell") "name" (.str n) E H) ∧ ∀ c, cellOf cs n = some c → ∀ l H', H l = none → Same H H' → H' l = some (.lst (c.2.map V.str)) → Q (.ref l) H'
theorem c_Board_values_of (T : Txt K mg) : Met P w K mg base (L2.CX P w) 3 (He.ga K "Board") "values_of" (sp_Board_values_of K) := by
  obtain ⟨fd, F⟩ := T.d_Board_values_of
  refine ⟨_, fd, _, T.cl_Board, T.mt_Board_values_of, F.ok (k := 2) sc_Board_values_of (fun vs H Q E h => by obtain ⟨_, _, _, rfl, _⟩ := h; rfl) (fun cdv A outer s H vs Q E hr h => ?_), F.bindsN fun _ _ _ _ _ _ us hl => match us, hl with | [_, _], _ => rfl⟩
  obtain ⟨x, cs, n, rfl, ⟨dx, t, as, hx, ht, hA⟩, hl, ke, k⟩ := h
  refine ⟨_, (pss_cons (ps_for (passes_of rfl) rfl (oIt K (oFld K (pv 0))) (oTup K (n := 2) rfl (pgs_cons (pg_name (i := 2) sc_Board_values_of.nd rfl (.inl rfl)) (pgs_cons (pg_name (i := 3) sc_Board_values_of.nd rfl (.inl rfl)) pgs_nil)))
        (pss_one (ps_if (pt_cmpR (oEq K hr.units) (pv 2) (pv 1) (nomark _))
          (pss_one (ps_ret (pe_callTy (oList K) (by rfl) T.n_list (by decide +kernel) (pa_cons (pv 3) pa_nil))))
          pss_nil)))
      (pss_one (ps_raise rfl (takes_of (E := E) rfl rfl rfl rfl) (pmk_A (x_NoCell T) hr (by first | decide | omega) rfl (pa_cons (pv 1) pa_nil))))), ?_⟩
  walk_at "go"
  refine s_itT ?_
  walk_at "go"
  refine ⟨x, _, dx, _, _, rfl, hx, T.cl_Board, T.na_Board__cells, lk1, t, rfl, ⟨_, ht⟩, for_all (still_tup ht) (fun i σ _ => (∃ u v, σ = [some (.ref x), some (.str n), u, v]) ∧ ∀ j c, j < i → cs[j]? = some c → decide (c.1 = n) = false) (fun _ _ _ _ _ q => q) ⟨⟨none, none, rfl⟩, fun j z h => absurd h (Nat.not_lt_zero j)⟩ (fun i y σ' H' hi hy s1 hp => ?_) fun σ' H' s1 hp => ?_⟩
  · obtain ⟨⟨u, v, rfl⟩, hp⟩ := hp
    obtain ⟨r, c, er, rfl, ec, l, hr1, hr2⟩ := hA.get hy
    refine s_gT (same_t s1 hr1) rfl ?_
    walk_at "go"
    refine s_eq rfl ?_
    walk_at "go"
    refine iteD (fun h1 => ?_) fun h1 => ?_
    · walk_at "go"
      refine s_lstT (same_t s1 hr2) fun p hp' => ?_
      exact k c (find_at hp ec (decide_eq_true (V.str.inj h1))) p _ (s1.free hp') (s1.trans (same_new hp')) upd_same
    · walk_at "go"
      refine ⟨s1, ⟨_, _, rfl⟩, fun j c' hj ej => ?_⟩
      by_cases hji : j = i
      · subst hji
        rw [ec] at ej; cases ej
        exact decide_eq_false fun e => h1 (congrArg V.str e)
      · exact hp j c' (by omega) ej
  · obtain ⟨⟨u, v, rfl⟩, hp⟩ := hp
    walk_at "go"
    refine err1_in ((ke ?_).mono s1)
    refine List.find?_eq_none.mpr fun c hc => ?_
    obtain ⟨j, hj, e⟩ := List.mem_iff_getElem.mp hc
    rw [hp j c (by rw [List.length_map, hA.1]; exact hj) (by rw [List.getElem?_eq_getElem hj, e])]
    decide
end

section
variable {P : Program} {w : World} {K : PySem.W.Frag} {mg : Str → Option Value} {base : Heap}
theorem ne_cv : ¬ (("cell" : Str) = "value") := by decide +kernel
theorem ne_cy : ¬ (("cell" : Str) = "yes") := by decide +kernel
theorem ne_vy : ¬ (("value" : Str) = "yes") := by decide +kernel
theorem ne_cn : ¬ (("cell" : Str) = "no") := by decide +kernel
theorem ne_vn : ¬ (("value" : Str) = "no") := by decide +kernel
theorem ne_yn : ¬ (("yes" : Str) = "no") := by decide +kernel
theorem ne_cb : ¬ (("cell" : Str) = "body") := by decide +kernel
theorem ne_vb : ¬ (("value" : Str) = "body") := by decide +kernel
theorem putF_n {f g : Str} {v x : V} {r : List (Str × V)} (h : ¬ g = f) : putF f v ((g, x) :: r) = (g, x) :: putF f v r := by
  show (if g = f then _ else _) = _
  rw [if_neg h]
theorem putF_0 {f : Str} {v : V} : putF f v [] = [(f, v)] := rfl
/-- the fields of a statement with a cell and a value -/
def cv (c v : Str) (r : List (Str × V)) : List (Str × V) := ("cell", .str c) :: ("value", .str v) :: r
theorem cv_c {c v : Str} {r : List (Str × V)} : (cv c v r).lookup ("cell" : Str) = some (V.str c) := by simp [cv, List.lookup]
theorem cv_v {c v : Str} {r : List (Str × V)} : (cv c v r).lookup ("value" : Str) = some (V.str v) := by
  have : (("value" : Str) == "cell") = false := by decide +kernel
  simp [cv, List.lookup, this]
/-- an object made of fields -/
def ObAt (C : Addr) (x : Addr) (fs : List (Str × V)) (H : Hp) : Prop := ∃ dx, H x = some (.ins C dx fs)
/-- what a statement's making asks: its names, then its fields are put -/
def sp_init (K : PySem.W.Frag) (cl : Str) (zs : List V → Option (List Str)) (fs : List V → List (Str × V)) : Sp := fun vs H Q E => ∃ (x dx : Addr) (ws : List V) (ns : List Str), vs = .ref x :: ws ∧ zs ws = some ns ∧ Small ns ∧ H x = some (.ins (He.ga K cl) dx []) ∧
  (∀ z, badNm ns = some z → Err1 (He.ga K "NoName") "name" (.str z) E H) ∧ (badNm ns = none → ∀ H', H' x = some (.ins (He.ga K cl) dx (fs ws)) → (∀ b o, H b = some o → b ≠ x → H' b = some o) → Q .non H')
def zs2 : List V → Option (List Str)
  | [.str c, .str v] => some [c, v]
  | _ => none
def fs2 : List V → List (Str × V)
  | [.str c, .str v] => cv c v []
  | _ => []
def zs3 : List V → Option (List Str)
  | [.str c, .str v, _] => some [c, v]
  | _ => none
def fs3 : List V → List (Str × V)
  | [.str c, .str v, b] => cv c v [("body", b)]
  | _ => []
def zs4 : List V → Option (List Str)
  | [.str c, .str v, _, _] => some [c, v]
  | _ => none
def fs4 : List V → List (Str × V)
  | [.str c, .str v, y, n] => cv c v [("yes", y), ("no", n)]
  | _ => []
def zs1 : List V → Option (List Str)
  | [.str n] => some [n]
  | _ => none
def fs1 : List V → List (Str × V)
  | [.str n] => [("name", .str n)]
  | _ => []
theorem z2 {ws : List V} {ns : List Str} (h : zs2 ws = some ns) : ∃ c v, ws = [.str c, .str v] ∧ ns = [c, v] := by
  unfold zs2 at h; split at h
  · cases h; exact ⟨_, _, rfl, rfl⟩
  · cases h
theorem z3 {ws : List V} {ns : List Str} (h : zs3 ws = some ns) : ∃ c v b, ws = [.str c, .str v, b] ∧ ns = [c, v] := by
  unfold zs3 at h; split at h
  · cases h; exact ⟨_, _, _, rfl, rfl⟩
  · cases h
theorem z4 {ws : List V} {ns : List Str} (h : zs4 ws = some ns) : ∃ c v y n, ws = [.str c, .str v, y, n] ∧ ns = [c, v] := by
  unfold zs4 at h; split at h
  · cases h; exact ⟨_, _, _, _, rfl, rfl⟩
  · cases h
theorem z1 {ws : List V} {ns : List Str} (h : zs1 ws = some ns) : ∃ n, ws = [.str n] ∧ ns = [n] := by
  unfold zs1 at h; split at h
  · cases h; exact ⟨_, rfl, rfl⟩
  · cases h
theorem mk_Write (T : Txt K mg) : Mak P w K mg base (L2.CX P w) 4 "Write" (He.ga K "Write") (sp_init K "Write" zs2 fs2) := by
  obtain ⟨fd, F⟩ := T.d_Write_init
  refine ⟨_, fd, _, T.mk_Write, F.ok (k := 3) sc_Write_init (fun vs H Q E h => by obtain ⟨_, _, _, _, rfl, h, _⟩ := h; obtain ⟨_, _, rfl, _⟩ := z2 h; rfl) (fun cdv A outer s H vs Q E hr h => ?_), T.g_Write, F.bindsN fun _ _ _ _ _ _ us hl => match us, hl with | [_, _, _], _ => rfl⟩
  obtain ⟨x, dx, ws, ns, rfl, hz, hs, hx, ke, k⟩ := h
  obtain ⟨c, v, rfl, rfl⟩ := z2 hz
  refine ⟨_, (pss_cons (ps_expr (pe_c (c_need_names T) hr (by first | decide | omega) (atW (takes_of (E := E) rfl rfl rfl rfl)) rfl (pa_cons (pe_lst (pa_cons (pv 1) (pa_cons (pv 2) pa_nil))) pa_nil)))
      (pss_cons (ps_fld (pv 0) (pv 1) rfl)
      (pss_one (ps_fld (pv 0) (pv 2) rfl)))), ?_⟩
  walk_at "go"
  refine ⟨by show 2 ≤ sizeLine; decide, fun p hp => ?_⟩
  walk_at "go"
  refine ⟨p, [c, v], rfl, SqL.of upd_same, hs, fun h1 H1 s1 => ?_, fun z h1 => (ke z h1).mono (same_new hp)⟩
  have hx1 := s1 _ _ (up hp hx)
  walk_at "go"
  refine ⟨x, _, dx, _, rfl, hx1, T.cl_Write, T.na_Write_cell, by decide, ?_⟩
  walk_at "go"
  refine ⟨x, _, dx, _, rfl, upd_same, T.cl_Write, T.na_Write_value, by show 1 < 1000; decide, ?_⟩
  refine k h1 _ ?_ fun b o e hb => by rw [upd_ne hb, upd_ne hb]; exact s1 _ _ (up hp e)
  rw [upd_same, putF_0, putF_n ne_cv, putF_0]; rfl
theorem mk_Wait (T : Txt K mg) : Mak P w K mg base (L2.CX P w) 4 "Wait" (He.ga K "Wait") (sp_init K "Wait" zs2 fs2) := by
  obtain ⟨fd, F⟩ := T.d_Wait_init
  refine ⟨_, fd, _, T.mk_Wait, F.ok (k := 3) sc_Wait_init (fun vs H Q E h => by obtain ⟨_, _, _, _, rfl, h, _⟩ := h; obtain ⟨_, _, rfl, _⟩ := z2 h; rfl) (fun cdv A outer s H vs Q E hr h => ?_), T.g_Wait, F.bindsN fun _ _ _ _ _ _ us hl => match us, hl with | [_, _, _], _ => rfl⟩
  obtain ⟨x, dx, ws, ns, rfl, hz, hs, hx, ke, k⟩ := h
  obtain ⟨c, v, rfl, rfl⟩ := z2 hz
  refine ⟨_, (pss_cons (ps_expr (pe_c (c_need_names T) hr (by first | decide | omega) (atW (takes_of (E := E) rfl rfl rfl rfl)) rfl (pa_cons (pe_lst (pa_cons (pv 1) (pa_cons (pv 2) pa_nil))) pa_nil)))
      (pss_cons (ps_fld (pv 0) (pv 1) rfl)
      (pss_one (ps_fld (pv 0) (pv 2) rfl)))), ?_⟩
  walk_at "go"
  refine ⟨by show 2 ≤ sizeLine; decide, fun p hp => ?_⟩
  walk_at "go"
  refine ⟨p, [c, v], rfl, SqL.of upd_same, hs, fun h1 H1 s1 => ?_, fun z h1 => (ke z h1).mono (same_new hp)⟩
  have hx1 := s1 _ _ (up hp hx)
  walk_at "go"
  refine ⟨x, _, dx, _, rfl, hx1, T.cl_Wait, T.na_Wait_cell, by decide, ?_⟩
  walk_at "go"
  refine ⟨x, _, dx, _, rfl, upd_same, T.cl_Wait, T.na_Wait_value, by show 1 < 1000; decide, ?_⟩
  refine k h1 _ ?_ fun b o e hb => by rw [upd_ne hb, upd_ne hb]; exact s1 _ _ (up hp e)
  rw [upd_same, putF_0, putF_n ne_cv, putF_0]; rfl
theorem mk_Mark (T : Txt K mg) : Mak P w K mg base (L2.CX P w) 4 "Mark" (He.ga K "Mark") (sp_init K "Mark" zs1 fs1) := by
  obtain ⟨fd, F⟩ := T.d_Mark_init
  refine ⟨_, fd, _, T.mk_Mark, F.ok (k := 3) sc_Mark_init (fun vs H Q E h => by obtain ⟨_, _, _, _, rfl, h, _⟩ := h; obtain ⟨_, rfl, _⟩ := z1 h; rfl) (fun cdv A outer s H vs Q E hr h => ?_), T.g_Mark, F.bindsN fun _ _ _ _ _ _ us hl => match us, hl with | [_, _], _ => rfl⟩
  obtain ⟨x, dx, ws, ns, rfl, hz, hs, hx, ke, k⟩ := h
  obtain ⟨n, rfl, rfl⟩ := z1 hz
  refine ⟨_, (pss_cons (ps_expr (pe_c (c_need_names T) hr (by first | decide | omega) (atW (takes_of (E := E) rfl rfl rfl rfl)) rfl (pa_cons (pe_lst (pa_cons (pv 1) pa_nil)) pa_nil)))
      (pss_one (ps_fld (pv 0) (pv 1) rfl))), ?_⟩
  walk_at "go"
  refine ⟨by show 1 ≤ sizeLine; decide, fun p hp => ?_⟩
  walk_at "go"
  refine ⟨p, [n], rfl, SqL.of upd_same, hs, fun h1 H1 s1 => ?_, fun z h1 => (ke z h1).mono (same_new hp)⟩
  have hx1 := s1 _ _ (up hp hx)
  walk_at "go"
  refine ⟨x, _, dx, _, rfl, hx1, T.cl_Mark, T.na_Mark_name, by decide, ?_⟩
  refine k h1 _ upd_same fun b o e hb => by rw [upd_ne hb]; exact s1 _ _ (up hp e)
theorem mk_While (T : Txt K mg) : Mak P w K mg base (L2.CX P w) 4 "While" (He.ga K "While") (sp_init K "While" zs3 fs3) := by
  obtain ⟨fd, F⟩ := T.d_While_init
  refine ⟨_, fd, _, T.mk_While, F.ok (k := 3) sc_While_init (fun vs H Q E h => by obtain ⟨_, _, _, _, rfl, h, _⟩ := h; obtain ⟨_, _, _, rfl, _⟩ := z3 h; rfl) (fun cdv A outer s H vs Q E hr h => ?_), T.g_While, F.bindsN fun _ _ _ _ _ _ us hl => match us, hl with | [_, _, _, _], _ => rfl⟩
  obtain ⟨x, dx, ws, ns, rfl, hz, hs, hx, ke, k⟩ := h
  obtain ⟨c, v, b', rfl, rfl⟩ := z3 hz
  refine ⟨_, (pss_cons (ps_expr (pe_c (c_need_names T) hr (by first | decide | omega) (atW (takes_of (E := E) rfl rfl rfl rfl)) rfl (pa_cons (pe_lst (pa_cons (pv 1) (pa_cons (pv 2) pa_nil))) pa_nil)))
      (pss_cons (ps_fld (pv 0) (pv 1) rfl)
      (pss_cons (ps_fld (pv 0) (pv 2) rfl)
      (pss_one (ps_fld (pv 0) (pv 3) rfl))))), ?_⟩
  walk_at "go"
  refine ⟨by show 2 ≤ sizeLine; decide, fun p hp => ?_⟩
  walk_at "go"
  refine ⟨p, [c, v], rfl, SqL.of upd_same, hs, fun h1 H1 s1 => ?_, fun z h1 => (ke z h1).mono (same_new hp)⟩
  have hx1 := s1 _ _ (up hp hx)
  walk_at "go"
  refine ⟨x, _, dx, _, rfl, hx1, T.cl_While, T.na_While_cell, by decide, ?_⟩
  walk_at "go"
  refine ⟨x, _, dx, _, rfl, upd_same, T.cl_While, T.na_While_value, by show 1 < 1000; decide, ?_⟩
  walk_at "go"
  refine ⟨x, _, dx, _, rfl, upd_same, T.cl_While, T.na_While_body, by rw [putF_0, putF_n ne_cv, putF_0]; show 2 < 1000; decide, ?_⟩
  refine k h1 _ ?_ fun b o e hb => by rw [upd_ne hb, upd_ne hb, upd_ne hb]; exact s1 _ _ (up hp e)
  rw [upd_same, putF_0, putF_n ne_cv, putF_0, putF_n ne_cb, putF_n ne_vb, putF_0]; rfl
theorem mk_If (T : Txt K mg) : Mak P w K mg base (L2.CX P w) 4 "If" (He.ga K "If") (sp_init K "If" zs4 fs4) := by
  obtain ⟨fd, F⟩ := T.d_If_init
  refine ⟨_, fd, _, T.mk_If, F.ok (k := 3) sc_If_init (fun vs H Q E h => by obtain ⟨_, _, _, _, rfl, h, _⟩ := h; obtain ⟨_, _, _, _, rfl, _⟩ := z4 h; rfl) (fun cdv A outer s H vs Q E hr h => ?_), T.g_If, F.bindsN fun _ _ _ _ _ _ us hl => match us, hl with | [_, _, _, _, _], _ => rfl⟩
  obtain ⟨x, dx, ws, ns, rfl, hz, hs, hx, ke, k⟩ := h
  obtain ⟨c, v, y', n', rfl, rfl⟩ := z4 hz
  refine ⟨_, (pss_cons (ps_expr (pe_c (c_need_names T) hr (by first | decide | omega) (atW (takes_of (E := E) rfl rfl rfl rfl)) rfl (pa_cons (pe_lst (pa_cons (pv 1) (pa_cons (pv 2) pa_nil))) pa_nil)))
      (pss_cons (ps_fld (pv 0) (pv 1) rfl)
      (pss_cons (ps_fld (pv 0) (pv 2) rfl)
      (pss_cons (ps_fld (pv 0) (pv 3) rfl)
      (pss_one (ps_fld (pv 0) (pv 4) rfl)))))), ?_⟩
  walk_at "go"
  refine ⟨by show 2 ≤ sizeLine; decide, fun p hp => ?_⟩
  walk_at "go"
  refine ⟨p, [c, v], rfl, SqL.of upd_same, hs, fun h1 H1 s1 => ?_, fun z h1 => (ke z h1).mono (same_new hp)⟩
  have hx1 := s1 _ _ (up hp hx)
  walk_at "go"
  refine ⟨x, _, dx, _, rfl, hx1, T.cl_If, T.na_If_cell, by decide, ?_⟩
  walk_at "go"
  refine ⟨x, _, dx, _, rfl, upd_same, T.cl_If, T.na_If_value, by show 1 < 1000; decide, ?_⟩
  walk_at "go"
  refine ⟨x, _, dx, _, rfl, upd_same, T.cl_If, T.na_If_yes, by rw [putF_0, putF_n ne_cv, putF_0]; show 2 < 1000; decide, ?_⟩
  walk_at "go"
  refine ⟨x, _, dx, _, rfl, upd_same, T.cl_If, T.na_If_no, by rw [putF_0, putF_n ne_cv, putF_0, putF_n ne_cy, putF_n ne_vy, putF_0]; show 3 < 1000; decide, ?_⟩
  refine k h1 _ ?_ fun b o e hb => by rw [upd_ne hb, upd_ne hb, upd_ne hb, upd_ne hb]; exact s1 _ _ (up hp e)
  rw [upd_same, putF_0, putF_n ne_cv, putF_0, putF_n ne_cy, putF_n ne_vy, putF_0, putF_n ne_cn, putF_n ne_vn, putF_n ne_yn, putF_0]; rfl
/-! ### the program without statements -/
def sp_within0 (K : PySem.W.Frag) : Sp := fun vs H Q _ => ∃ a : Addr, vs = [.ref a] ∧ SqL K H a [] ∧ ∀ l H', Same H H' → H' l = some (.lst []) → Q (.ref l) H'
theorem c_programs_within (T : Txt K mg) : Cal P w K mg base CX0 1 "programs_within" (sp_within0 K) := by
  obtain ⟨fd, F⟩ := T.d_programs_within
  refine ⟨_, fd, _, F.ok (k := 0) sc_programs_within (fun vs H Q E h => by obtain ⟨_, rfl, _⟩ := h; rfl) (fun cdv A outer s H vs Q E hr h => ?_), T.g_programs_within, F.kp, F.bindsN fun _ _ _ _ _ _ us hl => match us, hl with | [_], _ => rfl⟩
  obtain ⟨a, rfl, hS, k⟩ := h
  refine ⟨_, PSs.nox (pss_one (ps_ret (pe_lc2 (own := [("statement", 1), ("program", 2)]) (vs1 := [2]) rfl sc_programs_within.nd (oIt K (pv 0)) (blkOk_by (N := ["row", "statement", "program"]) (sc := defScope s_programs_within) (by decide +kernel)) (by decide) (fun _ _ _ _ _ => (pg_name (i := 1) sc_programs_within.nd rfl (.inl rfl))) (fun _ _ _ _ _ => pts_nil) (fun _ _ _ _ _ => (oIt K pe_never)) (fun _ _ _ _ _ => (pg_name (i := 2) sc_programs_within.nd rfl (.inl rfl))) (fun _ _ _ _ _ => pts_nil) (fun _ _ _ _ _ => (pv 2))))), ?_⟩
  walk_at "go"
  refine s_lc2n (s_itL ?_) (iA_mono var_mono)
  walk_at "go"
  exact ⟨a, rfl, ⟨_, hS⟩, _, still_list hS, fun D hD => k D _ (same_new hD) upd_same⟩
def sp_int0 (K : PySem.W.Frag) (n : Int) : Sp := fun vs H Q _ => ∃ a : Addr, vs = [.ref a] ∧ SqL K H a [] ∧ ∀ H', Same H H' → Q (.int n) H'
theorem c_many_in (T : Txt K mg) : Cal P w K mg base CX0 2 "many_in" (sp_int0 K 0) := by
  obtain ⟨fd, F⟩ := T.d_many_in
  refine ⟨_, fd, _, F.ok (k := 1) sc_many_in (fun vs H Q E h => by obtain ⟨_, rfl, _⟩ := h; rfl) (fun cdv A outer s H vs Q E hr h => ?_), T.g_many_in, F.kp, F.bindsN fun _ _ _ _ _ _ us hl => match us, hl with | [_], _ => rfl⟩
  obtain ⟨a, rfl, hS, k⟩ := h
  refine ⟨_, PSs.nox (pss_one (ps_ret (pe_op (oAdd K) (pe_callB (oLen K) (by rfl) T.n_len PySem.boot_len (pa_cons (pv 0) pa_nil)) (pe_callB (oSum K rfl) (by rfl) T.n_sum (by decide +kernel) (pa_cons (pe_lc (own := [("program", 1)]) rfl sc_many_in.nd (oIt K (pe_c (c_programs_within T) hr (by first | decide | omega) at0 rfl (pa_cons (pv 0) pa_nil))) (blkOk_by (N := ["row", "program"]) (sc := defScope s_many_in) (by decide +kernel)) (fun _ _ _ _ _ => (pg_name (i := 1) sc_many_in.nd rfl (.inl rfl))) (fun _ _ _ _ _ => pts_nil) (fun _ _ _ _ _ => pe_never)) pa_nil))))), ?_⟩
  walk_at "go"
  refine s_lenL hS ?_
  walk_at "go"
  refine s_itL ?_
  walk_at "go"
  refine ⟨a, rfl, hS, fun l H1 s1 hl => ⟨l, rfl, ⟨_, SqL.of hl⟩, lc_nil (still_list (SqL.of hl)) fun D hD => ?_⟩⟩
  walk_at "go"
  refine s_sum (ns := []) (SqL.of upd_same) ?_
  walk_at "go"
  exact k _ (s1.trans (same_new hD))
theorem c_depth_of (T : Txt K mg) : Cal P w K mg base CX0 2 "depth_of" (sp_int0 K 1) := by
  obtain ⟨fd, F⟩ := T.d_depth_of
  refine ⟨_, fd, _, F.ok (k := 1) sc_depth_of (fun vs H Q E h => by obtain ⟨_, rfl, _⟩ := h; rfl) (fun cdv A outer s H vs Q E hr h => ?_), T.g_depth_of, F.kp, F.bindsN fun _ _ _ _ _ _ us hl => match us, hl with | [_], _ => rfl⟩
  obtain ⟨a, rfl, hS, k⟩ := h
  refine ⟨_, PSs.nox (pss_one (ps_ret (pe_op (oAdd K) pe_int (pe_callBK (oMaxD K rfl) (by rfl) T.n_max (by decide +kernel) (pa_cons (pe_lc (own := [("program", 1)]) rfl sc_depth_of.nd (oIt K (pe_c (c_programs_within T) hr (by first | decide | omega) at0 rfl (pa_cons (pv 0) pa_nil))) (blkOk_by (N := ["row", "program"]) (sc := defScope s_depth_of) (by decide +kernel)) (fun _ _ _ _ _ => (pg_name (i := 1) sc_depth_of.nd rfl (.inl rfl))) (fun _ _ _ _ _ => pts_nil) (fun _ _ _ _ _ => pe_never)) pa_nil) (pk_cons pe_int pk_nil))))), ?_⟩
  walk_at "go"
  refine s_itL ?_
  walk_at "go"
  refine ⟨a, rfl, hS, fun l H1 s1 hl => ⟨l, rfl, ⟨_, SqL.of hl⟩, lc_nil (still_list (SqL.of hl)) fun D hD => ?_⟩⟩
  walk_at "go"
  refine s_maxD (ns := []) (SqL.of upd_same) (fun _ => ?_) (fun m h => absurd rfl h)
  walk_at "go"
  exact k _ (s1.trans (same_new hD))
def sp_Program0 (K : PySem.W.Frag) : Sp := fun vs H Q _ => ∃ (x a dx : Addr), vs = [.ref x, .ref a] ∧ H x = some (.ins (He.ga K "Program") dx []) ∧ SqL K H a [] ∧ ∀ H' t, H' x = some (.ins (He.ga K "Program") dx [("row", .ref t)]) → SqT K H' t [] → (∀ b o, H b = some o → b ≠ x → H' b = some o) → Q .non H'
theorem mk_Program (T : Txt K mg) : Mak P w K mg base (L2.CX P w) 4 "Program" (He.ga K "Program") (sp_Program0 K) := by
  obtain ⟨fd, F⟩ := T.d_Program_init
  refine ⟨_, fd, _, T.mk_Program, F.ok (k := 3) sc_Program_init (fun vs H Q E h => by obtain ⟨_, _, _, rfl, _⟩ := h; rfl) (fun cdv A outer s H vs Q E hr h => ?_), T.g_Program, F.bindsN fun _ _ _ _ _ _ us hl => match us, hl with | [_, _], _ => rfl⟩
  obtain ⟨x, a, dx, rfl, hx, hS, k⟩ := h
  refine ⟨_, (pss_cons (ps_expr (pe_c (c_need_count T) hr (by first | decide | omega) (atW (takes_of (E := E) rfl rfl rfl rfl)) rfl (pa_cons pe_str (pa_cons (pe_c (c_many_in T) hr (by first | decide | omega) at0 rfl (pa_cons (pv 1) pa_nil)) (pa_cons pe_int (pa_cons (C8.pe_gc rfl T.c_MOST_STATEMENTS) pa_nil))))))
      (pss_cons (ps_expr (pe_c (c_need_count T) hr (by first | decide | omega) (atW (takes_of (E := E) rfl rfl rfl rfl)) rfl (pa_cons pe_str (pa_cons (pe_c (c_depth_of T) hr (by first | decide | omega) at0 rfl (pa_cons (pv 1) pa_nil)) (pa_cons pe_int (pa_cons (C8.pe_gc rfl T.c_MOST_DEPTH) pa_nil))))))
      (pss_one (ps_fld (pv 0) (pe_callTy (oTuple K) (by rfl) T.n_tuple (by decide +kernel) (pa_cons (pv 1) pa_nil)) rfl)))), ?_⟩
  walk_at "go"
  refine ⟨a, rfl, hS, fun H1 s1 => ?_⟩
  walk_at "go"
  refine ⟨_, _, _, _, rfl, fun _ H2 s2 => ?_, fun h => absurd ⟨by decide, by decide⟩ h⟩
  have s02 := s1.trans s2
  walk_at "go"
  refine ⟨a, rfl, s02.seq hS, fun H3 s3 => ?_⟩
  walk_at "go"
  refine ⟨_, _, _, _, rfl, fun _ H4 s4 => ?_, fun h => absurd ⟨by decide, by decide⟩ h⟩
  have s04 := (s02.trans s3).trans s4
  walk_at "go"
  refine s_tupL (s04.seq hS) fun t ht => ?_
  walk_at "go"
  have hx4 := up (o := HO.tup []) ht (s04 _ _ hx)
  refine ⟨x, _, dx, _, rfl, hx4, T.cl_Program, T.na_Program_row, by decide, ?_⟩
  exact k _ t upd_same (sqT_ne (.inl (.inl upd_same)) hx4 _) fun b o e hb => by rw [upd_ne hb]; exact up ht (s04 _ _ e)
end

section
variable {P : Program} {w : World} {K : PySem.W.Frag} {mg : Str → Option Value} {base : Heap}
/-- the law's own source of digits: three numbers in a list -/
def Sd (a b c : Int) : Prop := 0 ≤ a ∧ 7 ≤ b ∧ b < 2147483640 ∧ 0 ≤ c ∧ c < 2147483640
def SdAt (s : Addr) (H : Hp) : Prop := ∃ a b c, H s = some (.lst [.int a, .int b, .int c]) ∧ Sd a b c
theorem SdAt.mono {s : Addr} {H H' : Hp} (e : Same H H') : SdAt s H → SdAt s H' := fun ⟨a, b, c, h, k⟩ => ⟨a, b, c, e _ _ h, k⟩
theorem SdAt.ne {s p : Addr} {H : Hp} (h : SdAt s H) (hp : H p = none) : s ≠ p := by
  obtain ⟨a, b, c, e, _⟩ := h
  exact ne_of_none e hp
def sp_l_state : Sp := fun vs H Q _ => ∃ n : Int, vs = [.int n] ∧ ∀ s H', H s = none → Same H H' → SdAt s H' → Q (.ref s) H'
theorem c_l_state (T : Txt K mg) : Cal P w K mg base CX0 1 "_law_state" sp_l_state := by
  obtain ⟨fd, F⟩ := T.d_l_state
  refine ⟨_, fd, _, F.ok (k := 0) sc_l_state (fun vs H Q E h => by obtain ⟨_, rfl, _⟩ := h; rfl) (fun cdv A outer s H vs Q E hr h => ?_), T.g_l_state, F.kp, F.bindsN fun _ _ _ _ _ _ us hl => match us, hl with | [_], _ => rfl⟩
  obtain ⟨n, rfl, k⟩ := h
  refine ⟨_, PSs.nox (pss_cons (ps_set (i := 0) sc_l_state.nd rfl (.inl rfl) (pe_callB call_abs (by rfl) T.n_abs (by decide +kernel) (pa_cons (pv 0) pa_nil)))
      (pss_one (ps_ret (pe_lst (pa_cons (pe_op op_mul (pv 0) (pe_callTy call_int1 (by rfl) T.n_int (by decide +kernel) (pa_cons (pe_cmpR op_ge (pv 0) (pe_op op_pow pe_int pe_int) (nomark _)) pa_nil))) (pa_cons (pe_op (oAdd K) (pe_op op_mod (pv 0) pe_int) pe_int) (pa_cons (pe_op op_mod (pv 0) pe_int) pa_nil))))))), ?_⟩
  walk_at "go"
  refine ⟨_, rfl, ?_⟩
  walk_at "go"
  refine s_I ⟨by decide, by decide, by decide⟩ ?_
  walk_at "go"
  refine Or.inr ⟨_, rfl, ?_⟩
  have hm : 0 ≤ (if n < 0 then -n else n) := by split <;> omega
  generalize (if n < 0 then -n else n) = m at hm
  refine s_I (.inr (by split <;> decide)) ?_
  walk_at "go"
  refine s_I (by decide) ?_
  walk_at "go"
  refine s_I (by decide) ?_
  walk_at "go"
  refine ⟨by show 3 ≤ sizeLine; decide, fun p hp => k p _ hp (same_new hp) ⟨_, _, _, upd_same, ?_, ?_, ?_, ?_, ?_⟩⟩
  · split
    · omega
    · omega
  · have := Int.emod_nonneg m (show (2147483629 : Int) ≠ 0 by decide); omega
  · have := Int.emod_lt_of_pos m (show (0 : Int) < 2147483629 by decide); omega
  · exact Int.emod_nonneg m (show (2147483587 : Int) ≠ 0 by decide)
  · have := Int.emod_lt_of_pos m (show (0 : Int) < 2147483587 by decide); omega
def sp_l_digit : Sp := fun vs H Q _ => ∃ (s : Addr) (n : Int), vs = [.ref s, .int n] ∧ SdAt s H ∧ 0 < n ∧ n ≤ 1000 ∧ ∀ r H', 0 ≤ r → r < n → SdAt s H' → But s H H' → Q (.int r) H'
theorem ix3_0 {a b c : V} : atI [a, b, c] 0 = some a := atI_nat (j := 0) rfl
theorem ix3_1 {a b c : V} : atI [a, b, c] 1 = some b := atI_nat (j := 1) rfl
theorem ix3_2 {a b c : V} : atI [a, b, c] 2 = some c := atI_nat (j := 2) rfl
theorem c_l_digit (T : Txt K mg) : Cal P w K mg base CX0 1 "_law_digit" sp_l_digit := by
  obtain ⟨fd, F⟩ := T.d_l_digit
  refine ⟨_, fd, _, F.ok (k := 0) sc_l_digit (fun vs H Q E h => by obtain ⟨_, _, rfl, _⟩ := h; rfl) (fun cdv A outer s H vs Q E hr h => ?_), T.g_l_digit, F.kp, F.bindsN fun _ _ _ _ _ _ us hl => match us, hl with | [_, _], _ => rfl⟩
  obtain ⟨s', n, rfl, ⟨a, b, c, hs, ha, hb1, hb2, hc1, hc2⟩, hn, hn2, k⟩ := h
  refine ⟨_, PSs.nox (pss_cons (ps_if (pt_cmpR op_gt (pe_ix (oIx K) (pv 0) pe_int (fun _ _ => rfl)) pe_int (nomark _))
        (pss_cons (ps_set (i := 2) sc_l_digit.nd rfl (.inl rfl) (pe_op op_mod (pe_ix (oIx K) (pv 0) pe_int (fun _ _ => rfl)) (pv 1)))
        (pss_cons (ps_asg (pe_op op_fdiv (pe_ix (oIx K) (pv 0) pe_int (fun _ _ => rfl)) (pv 1)) (pg_sub (pv 0) pe_int set_list))
        (pss_one (ps_ret (pv 2)))))
        pss_nil)
      (pss_cons (ps_set (i := 3) sc_l_digit.nd rfl (.inl rfl) (pe_op op_mul (pe_ix (oIx K) (pv 0) pe_int (fun _ _ => rfl)) (pe_op (oAdd K) (pe_op op_fdiv (pe_ix (oIx K) (pv 0) pe_int (fun _ _ => rfl)) pe_int) pe_int)))
      (pss_cons (ps_asg (pe_op (oAdd K) (pe_op op_mod (pe_op (oAdd K) (pv 3) (pe_ix (oIx K) (pv 0) pe_int (fun _ _ => rfl))) pe_int) pe_int) (pg_sub (pv 0) pe_int set_list))
      (pss_one (ps_ret (pe_op op_mod (pe_op op_fdiv (pe_ix (oIx K) (pv 0) pe_int (fun _ _ => rfl)) pe_int) (pv 1))))))), ?_⟩
  walk_at "go"
  refine s_ixL (SqL.of hs) ix3_0 ?_
  walk_at "go"
  refine iteD (fun h1 => ?_) fun h1 => ?_
  · walk_at "go"
    refine s_ixL (SqL.of hs) ix3_0 ?_
    walk_at "go"
    refine s_I hn ?_
    walk_at "go"
    refine s_ixL (SqL.of hs) ix3_0 ?_
    walk_at "go"
    refine s_I ⟨hn, by omega⟩ ?_
    walk_at "go"
    refine s_setL (j := 0) hs (by show 0 < 3; decide) ?_
    walk_at "go"
    refine k _ _ (Int.emod_nonneg a (by omega)) (Int.emod_lt_of_pos a hn) ⟨a / n, b, c, upd_same, Int.ediv_nonneg ha (by omega), hb1, hb2, hc1, hc2⟩ But.upd
  · walk_at "go"
    refine s_ixL (SqL.of hs) ix3_1 ?_
    walk_at "go"
    refine s_ixL (SqL.of hs) ix3_1 ?_
    walk_at "go"
    refine s_I ⟨by decide, by decide⟩ ?_
    walk_at "go"
    refine s_I (.inl ⟨by omega, by omega⟩) ?_
    walk_at "go"
    refine s_ixL (SqL.of hs) ix3_2 ?_
    walk_at "go"
    refine s_I (by decide) ?_
    walk_at "go"
    refine s_setL (j := 1) hs (by show 1 < 3; decide) ?_
    walk_at "go"
    refine s_ixL (SqL.of upd_same) ix3_1 ?_
    walk_at "go"
    refine s_I ⟨by decide, by decide⟩ ?_
    walk_at "go"
    refine s_I hn ?_
    have m1 := Int.emod_nonneg (b * (b / 1009 + 69621) + c) (show (2147483629 : Int) ≠ 0 by decide)
    have m2 := Int.emod_lt_of_pos (b * (b / 1009 + 69621) + c) (show (0 : Int) < 2147483629 by decide)
    exact k _ _ (Int.emod_nonneg _ (by omega)) (Int.emod_lt_of_pos _ hn) ⟨a, _, c, upd_same, ha, by omega, by omega, hc1, hc2⟩ But.upd
/-- signs that are signs -/
def Ok (z : Str) : Prop := ∀ c ∈ z.cps.toList, c < 0x110000
theorem Ok.to {z : Str} (h : Ok z) : PyData.strOk z = true := by
  show z.cps.all _ = true
  rw [← Array.all_toList]
  exact List.all_eq_true.mpr fun c hc => decide_eq_true (h c hc)
theorem ok_const {z : Str} (h : z.cps.toList.all (fun c => decide (c < 0x110000)) = true) : Ok z := fun c hc => of_decide_eq_true (List.all_eq_true.mp h c hc)
theorem ok_app {x y : Str} (hx : Ok x) (hy : Ok y) : Ok (x ++ y) := fun c hc => by
  have : (x ++ y).cps.toList = x.cps.toList ++ y.cps.toList := by
    show (x.cps ++ y.cps).toList = _
    exact Array.toList_append
  rw [this] at hc
  rcases List.mem_append.mp hc with h | h
  · exact hx c h
  · exact hy c h
theorem ok_one {z : Str} {i : Int} {c : Nat} (hz : Ok z) (h : atI z.cps.toList i = some c) : Ok ⟨#[c]⟩ := fun d hd => by
  have : d = c := by simpa using hd
  subst this
  obtain ⟨j, _, e, _⟩ := atI_get h
  exact hz d (List.mem_of_getElem? e)
theorem ok_slice {z : Str} (hz : Ok z) (lo hi : Option Int) : Ok (PySem.Txt.slice z lo hi) := fun c hc => by
  rw [← C8.cutS_slice] at hc
  exact hz c (List.mem_of_mem_drop (List.mem_of_mem_take (by simpa [cutS] using hc)))
theorem ok36 : Ok "abcdefghijklmnopqrstuvwxyz0123456789" := ok_const (by decide +kernel)
def sp_l_plain : Sp := fun vs H Q _ => ∃ (s : Addr) (n : Int), vs = [.ref s, .int n] ∧ SdAt s H ∧ 1 ≤ n ∧ n ≤ 50 ∧ ∀ z H', (z : Str).length ≤ 60 → Ok z → SdAt s H' → But s H H' → Q (.str z) H'
theorem len36 : ("abcdefghijklmnopqrstuvwxyz0123456789" : Str).cps.toList.length = 36 := by decide +kernel
theorem ln36 : ("abcdefghijklmnopqrstuvwxyz0123456789" : Str).length ≤ sizeLine := by decide +kernel
theorem str_len_app (x y : Str) : (x ++ y).length = x.length + y.length := by
  show (x ++ y).cps.size = x.cps.size + y.cps.size
  exact Array.size_append
theorem c_l_plain (T : Txt K mg) : Cal P w K mg base CX0 2 "_law_plain" sp_l_plain := by
  obtain ⟨fd, F⟩ := T.d_l_plain
  refine ⟨_, fd, _, F.ok (k := 1) sc_l_plain (fun vs H Q E h => by obtain ⟨_, _, rfl, _⟩ := h; rfl) (fun cdv A outer s H vs Q E hr h => ?_), T.g_l_plain, F.kp, F.bindsN fun _ _ _ _ _ _ us hl => match us, hl with | [_, _], _ => rfl⟩
  obtain ⟨s', n, rfl, hs, hn1, hn2, k⟩ := h
  refine ⟨_, PSs.nox (pss_cons (ps_set (i := 2) sc_l_plain.nd rfl (.inl rfl) pe_str)
      (pss_cons (ps_set (i := 3) sc_l_plain.nd rfl (.inl rfl) (pe_ix (oIx K) (pv 2) (pe_c (c_l_digit T) hr (by first | decide | omega) at0 rfl (pa_cons (pv 0) (pa_cons pe_int pa_nil))) (fun _ _ => rfl)))
      (pss_cons (ps_for PassesOwn.never rfl (pi_range1 rfl T.n_range (pa_cons (pe_op op_sub (pv 1) pe_int) pa_nil)) (pg_name (i := 4) sc_l_plain.nd rfl (.inl rfl))
        (pss_one (ps_set (i := 3) sc_l_plain.nd rfl (.inl rfl) (pe_op (oAdd K) (pv 3) (pe_ix (oIx K) (pv 2) (pe_c (c_l_digit T) hr (by first | decide | omega) at0 rfl (pa_cons (pv 0) (pa_cons pe_int pa_nil))) (fun _ _ => rfl))))))
      (pss_one (ps_ret (pv 3)))))), ?_⟩
  walk_at "go"
  refine ⟨s', 26, rfl, hs, by decide, by decide, fun r H1 r0 r1 hs1 b1 => ?_⟩
  obtain ⟨c, ec⟩ := atI_ex (xs := ("abcdefghijklmnopqrstuvwxyz0123456789" : Str).cps.toList) r0 (by rw [len36]; omega)
  refine s_ixS ln36 ec ?_
  walk_at "go"
  refine ⟨n - 1, rfl, by omega, by omega, for_range (fun i σ H' => ∃ z v, σ = [some (.ref s'), some (.int n), some (.str "abcdefghijklmnopqrstuvwxyz0123456789"), some (.str z), v] ∧ z.length ≤ i + 1 ∧ Ok z ∧ SdAt s' H' ∧ But s' H H') ⟨⟨#[c]⟩, none, rfl, Nat.le_refl _, ok_one ok36 ec, hs1, b1⟩ (fun i σ' H' hi hp => ?_) fun σ' H' hp => ?_⟩
  · obtain ⟨z, v, rfl, hz, oz, hs2, b2⟩ := hp
    walk_at "go"
    refine ⟨s', 36, rfl, hs2, by decide, by decide, fun r H2 r2 r3 hs3 b3 => ?_⟩
    obtain ⟨c, ec⟩ := atI_ex (xs := ("abcdefghijklmnopqrstuvwxyz0123456789" : Str).cps.toList) r2 (by rw [len36]; omega)
    refine s_ixS ln36 ec ?_
    have l1 : (⟨#[c]⟩ : Str).length = 1 := rfl
    refine s_addS (line_of (by omega)) ?_
    walk_at "go"
    exact ⟨_, _, rfl, by rw [str_len_app]; omega, ok_app oz (ok_one ok36 ec), hs3, b2.trans b3⟩
  · obtain ⟨z, v, rfl, hz, oz, hs2, b2⟩ := hp
    walk_at "go"
    exact k z _ (by omega) oz hs2 b2
/-- any text of the law's: at most 200 signs -/
def sp_l_text : Sp := fun vs H Q _ => ∃ (s : Addr), vs = [.ref s] ∧ SdAt s H ∧ ∀ z H', (z : Str).length ≤ 200 → Ok z → SdAt s H' → But s H H' → Q (.str z) H'
theorem slice_len (z : Str) (lo hi : Option Int) : (PySem.Txt.slice z lo hi).length ≤ z.length := by
  rw [← C8.cutS_slice]
  show (List.toArray _).size ≤ z.cps.size
  rw [List.size_toArray]
  rw [List.length_take, List.length_drop, Array.length_toList]
  omega
def others : List V := [V.str "", V.str "9", V.str "Ab", V.str "a b", V.str "a-b", V.str "aB", V.str " a", V.str "a ", V.str "{", V.str "}", V.str "a{", V.str "_a", V.str "a_b", V.str "~", V.str "a.b", V.str "9a", V.str "if "]
theorem others_all : others.all (fun v => match v with | .str z => decide (z.length ≤ 200) && z.cps.toList.all (fun c => decide (c < 0x110000)) | _ => false) = true := by decide +kernel
theorem atI_mem {α : Type} {xs : List α} {i : Int} {v : α} (h : atI xs i = some v) : v ∈ xs := by
  obtain ⟨j, _, e, _⟩ := atI_get h
  exact List.mem_of_getElem? e
theorem others_str {i : Int} {v : V} (h : atI others i = some v) : ∃ z, v = .str z ∧ z.length ≤ 200 ∧ Ok z := by
  have e := List.all_eq_true.mp others_all v (atI_mem h)
  cases v with
  | str z =>
    obtain ⟨e1, e2⟩ := bA e
    exact ⟨z, rfl, of_decide_eq_true e1, ok_const e2⟩
  | _ => cases e
theorem c_l_text (T : Txt K mg) : Cal P w K mg base CX0 3 "_law_text" sp_l_text := by
  obtain ⟨fd, F⟩ := T.d_l_text
  refine ⟨_, fd, _, F.ok (k := 2) sc_l_text (fun vs H Q E h => by obtain ⟨_, rfl, _⟩ := h; rfl) (fun cdv A outer s H vs Q E hr h => ?_), T.g_l_text, F.kp, F.bindsN fun _ _ _ _ _ _ us hl => match us, hl with | [_], _ => rfl⟩
  obtain ⟨s', rfl, hs, k⟩ := h
  refine ⟨_, PSs.nox (pss_cons (ps_set (i := 1) sc_l_text.nd rfl (.inl rfl) (pe_c (c_l_digit T) hr (by first | decide | omega) at0 rfl (pa_cons (pv 0) (pa_cons pe_int pa_nil))))
      (pss_cons (ps_set (i := 2) sc_l_text.nd rfl (.inl rfl) (pe_op (oAdd K) pe_int (pe_c (c_l_digit T) hr (by first | decide | omega) at0 rfl (pa_cons (pv 0) (pa_cons pe_int pa_nil)))))
      (pss_cons (ps_if (pt_cmpR op_lt (pv 1) pe_int (nomark _))
        (pss_one (ps_ret (pe_c (c_l_plain T) hr (by first | decide | omega) at0 rfl (pa_cons (pv 0) (pa_cons (pv 2) pa_nil)))))
        pss_nil)
      (pss_cons (ps_if (pt_cmpR (oEq K hr.units) (pv 1) pe_int (nomark _))
        (pss_one (ps_ret (pe_c (c_l_plain T) hr (by first | decide | omega) at0 rfl (pa_cons (pv 0) (pa_cons (pe_op (oAdd K) pe_int (pe_c (c_l_digit T) hr (by first | decide | omega) at0 rfl (pa_cons (pv 0) (pa_cons pe_int pa_nil)))) pa_nil)))))
        pss_nil)
      (pss_cons (ps_if (pt_cmpR (oEq K hr.units) (pv 1) pe_int (nomark _))
        (pss_cons (ps_set (i := 3) sc_l_text.nd rfl (.inl rfl) (pe_lst (pa_cons pe_str (pa_cons pe_str (pa_cons pe_str (pa_cons pe_str (pa_cons pe_str (pa_cons pe_str (pa_cons pe_str (pa_cons pe_str (pa_cons pe_str (pa_cons pe_str (pa_cons pe_str (pa_cons pe_str (pa_cons pe_str (pa_cons pe_str (pa_cons pe_str (pa_cons pe_str (pa_cons pe_str pa_nil)))))))))))))))))))
        (pss_one (ps_ret (pe_ix (oIx K) (pv 3) (pe_c (c_l_digit T) hr (by first | decide | omega) at0 rfl (pa_cons (pv 0) (pa_cons pe_int pa_nil))) (fun _ _ => rfl)))))
        pss_nil)
      (pss_cons (ps_set (i := 4) sc_l_text.nd rfl (.inl rfl) (pe_c (c_l_plain T) hr (by first | decide | omega) at0 rfl (pa_cons (pv 0) (pa_cons (pv 2) pa_nil))))
      (pss_cons (ps_set (i := 5) sc_l_text.nd rfl (.inl rfl) (pe_c (c_l_digit T) hr (by first | decide | omega) at0 rfl (pa_cons (pv 0) (pa_cons (pv 2) pa_nil))))
      (pss_one (ps_ret (pe_op (oAdd K) (pe_op (oAdd K) (pe_slice (oSl K) (pv 4) po_none (po_some (pv 5))) (pe_ix (oIx K) pe_str (pe_c (c_l_digit T) hr (by first | decide | omega) at0 rfl (pa_cons (pv 0) (pa_cons pe_int pa_nil))) (fun _ _ => rfl))) (pe_slice (oSl K) (pv 4) (po_some (pe_op (oAdd K) (pv 5) pe_int)) po_none))))))))))), ?_⟩
  walk_at "go"
  refine ⟨s', 5, rfl, hs, by decide, by decide, fun r1 H1 r1a r1b hs1 b1 => ?_⟩
  walk_at "go"
  refine ⟨s', 10, rfl, hs1, by decide, by decide, fun r2 H2 r2a r2b hs2 b2 => ?_⟩
  walk_at "go"
  refine iteD (fun h1 => ?_) fun h1 => ?_
  · walk_at "go"
    exact ⟨s', _, rfl, hs2, by omega, by omega, fun z H3 hz oz hs3 b3 => k z H3 (by omega) oz hs3 ((b1.trans b2).trans b3)⟩
  · walk_at "go"
    refine s_eq rfl ?_
    walk_at "go"
    refine iteD (fun h2 => ?_) fun h2 => ?_
    · walk_at "go"
      refine ⟨s', 2, rfl, hs2, by decide, by decide, fun r3 H3 r3a r3b hs3 b3 => ?_⟩
      walk_at "go"
      exact ⟨s', _, rfl, hs3, by omega, by omega, fun z H4 hz oz hs4 b4 => k z H4 (by omega) oz hs4 (((b1.trans b2).trans b3).trans b4)⟩
    · walk_at "go"
      refine s_eq rfl ?_
      walk_at "go"
      refine iteD (fun h3 => ?_) fun h3 => ?_
      · walk_at "go"
        refine ⟨by show 17 ≤ sizeLine; decide, fun p hp => ?_⟩
        walk_at "go"
        refine ⟨s', 17, rfl, hs2.mono (same_new hp), by decide, by decide, fun r3 H3 r3a r3b hs3 b3 => ?_⟩
        obtain ⟨v, ev⟩ := atI_ex (xs := others) r3a (by show r3 < 17; omega)
        obtain ⟨z, rfl, hz, oz⟩ := others_str ev
        have hl := b3 p (HO.lst others) upd_same (SdAt.ne hs2 hp).symm
        refine s_ixL (SqL.of hl) ev ?_
        exact k z _ hz oz hs3 (((b1.trans b2).trans (But.of (same_new hp))).trans b3)
      · walk_at "go"
        refine ⟨s', _, rfl, hs2, by omega, by omega, fun z H3 hz oz hs3 b3 => ?_⟩
        walk_at "go"
        refine ⟨s', _, rfl, hs3, by omega, by omega, fun r4 H4 r4a r4b hs4 b4 => ?_⟩
        walk_at "go"
        refine s_slS (line_of (by omega)) ?_
        walk_at "go"
        refine ⟨s', 11, rfl, hs4, by decide, by decide, fun r5 H5 r5a r5b hs5 b5 => ?_⟩
        obtain ⟨c, ec⟩ := atI_ex (xs := ("ABZ _-|:>.#" : Str).cps.toList) r5a (by rw [show ("ABZ _-|:>.#" : Str).cps.toList.length = 11 by decide +kernel]; omega)
        refine s_ixS (by decide +kernel) ec ?_
        have l1 := slice_len z none (some r4)
        have l2 := slice_len z (some (r4 + 1)) none
        have l3 : (⟨#[c]⟩ : Str).length = 1 := rfl
        refine s_addS (line_of (by omega)) ?_
        walk_at "go"
        refine s_slS (line_of (by omega)) ?_
        refine s_addS (line_of (by rw [str_len_app]; omega)) ?_
        exact k _ _ (by rw [str_len_app, str_len_app]; omega) (ok_app (ok_app (ok_slice oz _ _) (ok_one (ok_const (by decide +kernel)) ec)) (ok_slice oz _ _)) hs5 ((((b1.trans b2).trans b3).trans b4).trans b5)
/-! ### the law's own look at a name -/
def DIGS : Str := "0123456789"
theorem lfs_eq : LFS.cps.toList = LETS.cps.toList ++ DIGS.cps.toList := by decide +kernel
theorem lfs_in (c : Nat) : decide (c ∈ LFS.cps.toList) = (decide (c ∈ LETS.cps.toList) || decide (c ∈ DIGS.cps.toList)) := by
  rw [lfs_eq]
  by_cases h1 : c ∈ LETS.cps.toList
  · simp [h1]
  · by_cases h2 : c ∈ DIGS.cps.toList
    · simp [h1, h2]
    · simp [h1, h2]
theorem c_l_is_name (T : Txt K mg) : Cal P w K mg base CX0 1 "_law_is_name" sp_is_name := by
  obtain ⟨fd, F⟩ := T.d_l_is_name
  refine ⟨_, fd, _, F.ok (k := 0) sc_l_is_name (fun vs H Q E h => by obtain ⟨_, rfl, _⟩ := h; rfl) (fun cdv A outer s H vs Q E hr h => ?_), T.g_l_is_name, F.kp, F.bindsN fun _ _ _ _ _ _ us hl => match us, hl with | [_], _ => rfl⟩
  obtain ⟨z, rfl, hz, k⟩ := h
  refine ⟨_, PSs.nox (pss_cons (ps_set (i := 1) sc_l_is_name.nd rfl (.inr rfl) pe_str)
      (pss_cons (ps_if (PW.pt (pw_or (pt_cmpR (oEq K hr.units) (pv 0) pe_str (nomark _)) (pw_or (pt_cmpR op_gt (pe_callB (oLen K) (by rfl) T.n_len PySem.boot_len (pa_cons (pv 0) pa_nil)) pe_int (nomark _)) (pw_or1 (pt_cmpR (oNotIn K) (pe_ix (oIx K) (pv 0) pe_int (fun _ _ => rfl)) (pv 1) (by rfl))))))
        (pss_one (ps_ret pe_bl))
        pss_nil)
      (pss_one (ps_ret (pe_callB (oAll K rfl) (by rfl) T.n_all (by decide +kernel) (pa_cons (pe_lc (own := [("_law_sign", 2)]) rfl sc_l_is_name.nd (oIt K (pv 0)) (blkOk_by (N := ["_law_text_here", "_law_letters", "_law_sign"]) (sc := defScope s_l_is_name) (by decide +kernel)) (fun _ _ _ _ _ => (pg_name (i := 2) sc_l_is_name.nd rfl (.inl rfl))) (fun _ _ _ _ _ => pts_nil) (fun _ _ _ _ _ => (pe_or (pe_cmpR (oIn K) (pv 2) (pv 1) (by rfl)) (pe_one (pe_cmpR (oIn K) (pv 2) pe_str (by rfl)))))) pa_nil)))))), ?_⟩
  have hz' : z.length ≤ sizeLine := line_of hz
  have zl : z.length = z.cps.toList.length := rfl
  walk_at "go"
  refine s_eq rfl ?_
  walk_at "go"
  refine iteD (fun h1 => ?_) fun h1 => ?_
  · walk_at "go"
    have h1' := V.str.inj h1
    subst h1'
    exact isNm_empty (l := ("" : Str).cps.toList) (by decide +kernel) ▸ k _ (Same.refl _)
  · walk_at "go"
    refine s_lenS hz' ?_
    walk_at "go"
    refine iteD (fun h2 => ?_) fun h2 => ?_
    · walk_at "go"
      exact isNm_long (l := z.cps.toList) (by omega) ▸ k _ (Same.refl _)
    · obtain ⟨c, r, ec⟩ : ∃ c r, z.cps.toList = c :: r := by
        match q : z.cps.toList with
        | [] => exact absurd (congrArg V.str (show z = "" from by
            obtain ⟨l⟩ := z
            have : l = #[] := by simpa using q
            subst this; rfl)) h1
        | c :: r => exact ⟨c, r, rfl⟩
      walk_at "go"
      refine s_ixS (c := c) hz' (by rw [ec]; exact atI0) ?_
      walk_at "go"
      rw [zl, ec] at h2
      rw [ec] at k
      have h0 : 1 ≤ (c :: r).length := Nat.succ_le_succ (Nat.zero_le _)
      refine iteN (fun h3 => ?_) fun h3 => ?_
      · walk_at "go"
        exact isNm_head h3 ▸ k _ (Same.refl _)
      · walk_at "go"
        refine s_itS ?_
        walk_at "go"
        refine ⟨z, rfl, lc_all still_str (fun _ i y _ => ∃ c, z.cps.toList[i]? = some c ∧ y = .bl (decide (c ∈ LFS.cps.toList))) (by omega) (fun _ _ _ _ _ _ q => q) (fun D i x acc H' _ _ hx s1 _ Q' k' => ?_) (fun D ys H' _ s1 hy hl hr => ?_) gn_mono⟩
        · obtain ⟨c', hc', rfl⟩ := hx
          walk_at "go"
          refine ⟨rfl, ?_⟩
          walk_at "go"
          refine iteD (fun h4 => ?_) fun h4 => ?_
          · exact k' _ _ (Same.refl _) ⟨c', hc', by rw [lfs_in, decide_eq_true (show c' ∈ LETS.cps.toList from h4)]; rfl⟩
          · walk_at "go"
            exact k' _ _ (Same.refl _) ⟨c', hc', by rw [lfs_in, decide_eq_false (show ¬ c' ∈ LETS.cps.toList from h4)]; rfl⟩
        · walk_at "go"
          have e : ys = (z.cps.toList.map fun c => decide (c ∈ LFS.cps.toList)).map V.bl := by
            rw [List.map_map]
            exact ge_map hl hr
          rw [e] at hy
          refine s_all (SqL.of hy) ?_
          have e2 : ((z.cps.toList.map fun c => decide (c ∈ LFS.cps.toList)).all id) = isNm (c :: r) := by
            rw [isNm_all h0 (by omega) h3, ec, List.all_map]
            rfl
          rw [e2]
          exact k _ s1
/-- the cell and the value of a statement, in a new list -/
def sp_l_fields (K : PySem.W.Frag) : Sp := fun vs H Q _ => ∃ (x C dx : Addr) (fs : List (Str × V)) (a b : V), vs = [.ref x] ∧ H x = some (.ins C dx fs) ∧ Cls K C ∧ NoAttr K C "cell" ∧ NoAttr K C "value" ∧ fs.lookup ("cell" : Str) = some a ∧ fs.lookup ("value" : Str) = some b ∧
  ∀ l, H l = none → Q (.ref l) (upd H l (.lst [a, b]))
theorem c_l_fields (T : Txt K mg) : Cal P w K mg base CX0 1 "_law_fields" (sp_l_fields K) := by
  obtain ⟨fd, F⟩ := T.d_l_fields
  refine ⟨_, fd, _, F.ok (k := 0) sc_l_fields (fun vs H Q E h => by obtain ⟨_, _, _, _, _, _, rfl, _⟩ := h; rfl) (fun cdv A outer s H vs Q E hr h => ?_), T.g_l_fields, F.kp, F.bindsN fun _ _ _ _ _ _ us hl => match us, hl with | [_], _ => rfl⟩
  obtain ⟨x, C, dx, fs, a, b, rfl, hx, hc, n1, n2, l1, l2, k⟩ := h
  refine ⟨_, PSs.nox (pss_one (ps_ret (pe_lst (pa_cons (oFld K (pv 0)) (pa_cons (oFld K (pv 0)) pa_nil))))), ?_⟩
  walk_at "go"
  refine ⟨x, C, dx, fs, a, rfl, hx, hc, n1, l1, ?_⟩
  walk_at "go"
  refine ⟨x, C, dx, fs, b, rfl, hx, hc, n2, l2, ?_⟩
  walk_at "go"
  exact ⟨by show 2 ≤ sizeLine; decide, k⟩
end

section
variable {P : Program} {w : World} {K : PySem.W.Frag} {mg : Str → Option Value} {base : Heap}
theorem made {H : Hp} {x dx C : Addr} (nx : H x = none) (nd : H dx = none) (ne : dx ≠ x) : Same H (upd (upd H dx (.own x)) x (.ins C dx [])) :=
  (same_new nd).trans (same_new (by rw [upd_ne ne.symm]; exact nx))
theorem nm_a : isNm ("a" : Str).cps.toList = true := by decide +kernel
theorem nm_nine : isNm ("nine" : Str).cps.toList = true := by decide +kernel
theorem nm_ten : isNm ("ten" : Str).cps.toList = true := by decide +kernel
theorem nm_b : isNm ("b" : Str).cps.toList = true := by decide +kernel
theorem nm_c : isNm ("c" : Str).cps.toList = true := by decide +kernel
theorem badNm_cons {z : Str} {zs : List Str} (h : isNm z.cps.toList = true) : badNm (z :: zs) = badNm zs := by
  unfold badNm; rw [List.find?_cons, h]; rfl
theorem badNm_hit {z : Str} {zs : List Str} (h : isNm z.cps.toList = false) : badNm (z :: zs) = some z := by
  unfold badNm; rw [List.find?_cons, h]; rfl
theorem badNm_nil : badNm [] = none := rfl
theorem dupNm_nodup {zs : List Str} (h : zs.Nodup) : dupNm zs = none := by
  refine dupNm_none fun j z e hm => ?_
  obtain ⟨i, hi, e2⟩ := List.mem_iff_getElem.mp hm
  rw [List.length_take] at hi
  have hi' : i < j := by omega
  obtain ⟨hj, e3⟩ := List.getElem?_eq_some_iff.mp e
  rw [List.getElem_take] at e2
  have := (List.getElem_inj h).mp (e2.trans e3.symm)
  omega
theorem bc_ok : valuesRf ["b", "c"] = none := by
  unfold valuesRf
  rw [if_pos (by decide), badNm_cons nm_b, badNm_cons nm_c, badNm_nil]
  show (dupNm _).map Rf.twice = none
  rw [dupNm_nodup (by decide +kernel)]; rfl
/-- what the texts of the law may be -/
def Tx (z : Str) : Prop := z.length ≤ 200 ∧ z ≠ "a" ∧ z ≠ "nine" ∧ z ≠ "ten"
theorem two_cells {z : Str} (t : Tx z) : boardRf [("a", ["b", "c"]), (z, ["b", "c"])] = if isNm z.cps.toList then none else some (.noName z) := by
  unfold boardRf
  rw [if_pos (by show 1 ≤ 2 ∧ 2 ≤ 3; decide)]
  have c1 : cellRf ("a", ["b", "c"]) = none := by unfold cellRf; rw [if_pos nm_a, bc_ok]
  have d : dupNm ["a", z] = none := dupNm_nodup (by simp [t.2.1.symm])
  rw [List.findSome?_cons, c1]
  show (match List.findSome? cellRf [(z, ["b", "c"])] with | some r => some r | none => (dupNm ["a", z]).map Rf.twice) = _
  rw [d, List.findSome?_cons]
  cases e : isNm z.cps.toList with
  | true =>
    have c2 : cellRf (z, ["b", "c"]) = none := by unfold cellRf; rw [e]; exact bc_ok
    rw [c2]; rfl
  | false =>
    have c2 : cellRf (z, ["b", "c"]) = some (.noName z) := by unfold cellRf; rw [e]; rfl
    rw [c2]; rfl
theorem one_cell {vs : List Str} {z : Str} (hl : vs.length = 3) (hd : vs.Nodup) (h1 : isNm z.cps.toList = true → badNm vs = none) (h0 : isNm z.cps.toList = false → badNm vs = some z) : boardRf [("a", vs)] = if isNm z.cps.toList then none else some (.noName z) := by
  unfold boardRf
  rw [if_pos (by show 1 ≤ 1 ∧ 1 ≤ 3; decide)]
  have c1 : cellRf ("a", vs) = valuesRf vs := if_pos nm_a
  show (match List.findSome? cellRf [("a", vs)] with | some r => some r | none => (dupNm ["a"]).map Rf.twice) = _
  rw [List.findSome?_cons, c1, dupNm_nodup (show (["a"] : List Str).Nodup by decide +kernel)]
  unfold valuesRf
  rw [if_pos (by omega)]
  cases e : isNm z.cps.toList with
  | true => rw [h1 e, dupNm_nodup hd]; rfl
  | false => rw [h0 e]; rfl
/-- made at a door: the text again, or refused -/
def sp_l_made (K : PySem.W.Frag) : Sp := fun vs H Q E => ∃ (d : Int) (z : Str), vs = [.int d, .str z] ∧ 0 ≤ d ∧ d < 12 ∧ Tx z ∧ (isNm z.cps.toList = true → ∀ H', Same H H' → Q (.str z) H') ∧ (isNm z.cps.toList = false → Err1 (He.ga K "NoName") "name" (.str z) E H)
theorem small2 {a b : Str} (ha : a.length ≤ 1000) (hb : b.length ≤ 1000) : Small [a, b] := ⟨by show 2 ≤ 100000; decide, fun z hz => by
  rcases List.mem_cons.mp hz with rfl | hz
  · omega
  · rw [List.mem_singleton.mp hz]; omega⟩
theorem small3 {a b c : Str} (ha : a.length ≤ 1000) (hb : b.length ≤ 1000) (hc : c.length ≤ 1000) : Small [a, b, c] := ⟨by show 3 ≤ 100000; decide, fun z hz => by
  rcases List.mem_cons.mp hz with rfl | hz
  · omega
  · rcases List.mem_cons.mp hz with rfl | hz
    · omega
    · rw [List.mem_singleton.mp hz]; omega⟩
theorem la : ("a" : Str).length ≤ 1000 := by decide +kernel
theorem lb : ("b" : Str).length ≤ 1000 := by decide +kernel
theorem lc : ("c" : Str).length ≤ 1000 := by decide +kernel
theorem l9 : ("nine" : Str).length ≤ 1000 := by decide +kernel
theorem l10 : ("ten" : Str).length ≤ 1000 := by decide +kernel
theorem no_cells {v : V} : [(("_cells" : Str), v)].lookup ("cells" : Str) = none := by
  have : (("cells" : Str) == "_cells") = false := by decide +kernel
  simp [List.lookup, this]
theorem no_vof {v : V} : [(("_cells" : Str), v)].lookup ("values_of" : Str) = none := by
  have : (("values_of" : Str) == "_cells") = false := by decide +kernel
  simp [List.lookup, this]
theorem pick2 {z : Str} (zl : z.length ≤ 1000) {e : Int} (he : e = 0 ∨ e = 1) : ∃ c v : Str, atI [V.str z, V.str "a"] e = some (.str c) ∧ atI [V.str "a", V.str z] e = some (.str v) ∧ atI [V.str c, V.str v] e = some (.str z) ∧ Small [c, v] ∧ (isNm z.cps.toList = true → badNm [c, v] = none) ∧ (isNm z.cps.toList = false → badNm [c, v] = some z) := by
  rcases he with rfl | rfl
  · exact ⟨z, "a", atI0, atI0, atI0, small2 zl la, fun h => by rw [badNm_cons h, badNm_cons nm_a, badNm_nil], fun h => badNm_hit h⟩
  · exact ⟨"a", z, at_of (j := 1) (by decide) rfl, at_of (j := 1) (by decide) rfl, at_of (j := 1) (by decide) rfl, small2 la zl, fun h => by rw [badNm_cons nm_a, badNm_cons h, badNm_nil], fun h => by rw [badNm_cons nm_a, badNm_hit h]⟩
theorem of_bad {z c v : Str} (h1 : isNm z.cps.toList = true → badNm [c, v] = none) (h0 : isNm z.cps.toList = false → badNm [c, v] = some z) : (badNm [c, v] = none → isNm z.cps.toList = true) ∧ ∀ y, badNm [c, v] = some y → isNm z.cps.toList = false ∧ y = z := by
  cases e : isNm z.cps.toList with
  | true => exact ⟨fun _ => rfl, fun y h => (by rw [h1 e] at h; cases h)⟩
  | false => exact ⟨fun h => (by rw [h0 e] at h; cases h), fun y h => (by rw [h0 e] at h; cases h; exact ⟨rfl, rfl⟩)⟩
theorem c_l_made (T : Txt K mg) : Cal P w K mg base (L2.CX P w) 8 "_law_made" (sp_l_made K) := by
  obtain ⟨fd, F⟩ := T.d_l_made
  refine ⟨_, fd, _, F.ok (k := 7) sc_l_made (fun vs H Q E h => by obtain ⟨_, _, rfl, _⟩ := h; rfl) (fun cdv A outer s H vs Q E hr h => ?_), T.g_l_made, F.kp, F.bindsN fun _ _ _ _ _ _ us hl => match us, hl with | [_, _], _ => rfl⟩
  obtain ⟨d, z, rfl, hd0, hd1, tx, k, ke⟩ := h
  have zl : z.length ≤ 1000 := Nat.le_trans tx.1 (by decide)
  refine ⟨_, (pss_cons (ps_if (pt_cmpR (oEq K hr.units) (pv 0) pe_int (nomark _))
        (pss_one (ps_ret (pe_ix (oIx K) (pe_m0 (c_Board_cells T) hr (by first | decide | omega) at0 (pe_mk (mk_Board T) hr (by first | decide | omega) (atW (takes_of (E := E) rfl rfl rfl rfl)) rfl (pa_cons (pe_lst (pa_cons (pe_tup (pa_cons pe_str (pa_cons (pe_lst (pa_cons pe_str (pa_cons pe_str pa_nil))) pa_nil))) (pa_cons (pe_tup (pa_cons (pv 1) (pa_cons (pe_lst (pa_cons pe_str (pa_cons pe_str pa_nil))) pa_nil))) pa_nil))) pa_nil))) pe_int (fun _ _ => rfl))))
        pss_nil)
      (pss_cons (ps_if (pt_cmpR op_lt (pv 0) pe_int (nomark _))
        (pss_cons (ps_set (i := 2) sc_l_made.nd rfl (.inl rfl) (pe_ix (oIx K) (pe_lst (pa_cons (pe_lst (pa_cons pe_str (pa_cons pe_str (pa_cons (pv 1) pa_nil)))) (pa_cons (pe_lst (pa_cons (pv 1) (pa_cons pe_str (pa_cons pe_str pa_nil)))) pa_nil))) (pe_op op_sub (pv 0) pe_int) (fun _ _ => rfl)))
        (pss_one (ps_ret (pe_ix (oIx K) (pe_m (c_Board_values_of T) hr (by first | decide | omega) (atW (takes_of (E := E) rfl rfl rfl rfl)) (pe_mk (mk_Board T) hr (by first | decide | omega) (atW (takes_of (E := E) rfl rfl rfl rfl)) rfl (pa_cons (pe_lst (pa_cons (pe_tup (pa_cons pe_str (pa_cons (pv 2) pa_nil))) pa_nil)) pa_nil)) (pa_cons pe_str pa_nil)) (pe_op op_mul pe_int (pe_op op_sub pe_int (pv 0))) (fun _ _ => rfl)))))
        pss_nil)
      (pss_cons (ps_if (pt_cmpR op_lt (pv 0) pe_int (nomark _))
        (pss_one (ps_ret (pe_ix (oIx K) (pe_c (c_l_fields T) hr (by first | decide | omega) at0 rfl (pa_cons (pe_mk (mk_Write T) hr (by first | decide | omega) (atW (takes_of (E := E) rfl rfl rfl rfl)) rfl (pa_cons (pe_ix (oIx K) (pe_lst (pa_cons (pv 1) (pa_cons pe_str pa_nil))) (pe_op op_sub (pv 0) pe_int) (fun _ _ => rfl)) (pa_cons (pe_ix (oIx K) (pe_lst (pa_cons pe_str (pa_cons (pv 1) pa_nil))) (pe_op op_sub (pv 0) pe_int) (fun _ _ => rfl)) pa_nil))) pa_nil)) (pe_op op_sub (pv 0) pe_int) (fun _ _ => rfl))))
        pss_nil)
      (pss_cons (ps_if (pt_cmpR op_lt (pv 0) pe_int (nomark _))
        (pss_one (ps_ret (pe_ix (oIx K) (pe_c (c_l_fields T) hr (by first | decide | omega) at0 rfl (pa_cons (pe_mk (mk_Wait T) hr (by first | decide | omega) (atW (takes_of (E := E) rfl rfl rfl rfl)) rfl (pa_cons (pe_ix (oIx K) (pe_lst (pa_cons (pv 1) (pa_cons pe_str pa_nil))) (pe_op op_sub (pv 0) pe_int) (fun _ _ => rfl)) (pa_cons (pe_ix (oIx K) (pe_lst (pa_cons pe_str (pa_cons (pv 1) pa_nil))) (pe_op op_sub (pv 0) pe_int) (fun _ _ => rfl)) pa_nil))) pa_nil)) (pe_op op_sub (pv 0) pe_int) (fun _ _ => rfl))))
        pss_nil)
      (pss_cons (ps_if (pt_cmpR op_lt (pv 0) pe_int (nomark _))
        (pss_one (ps_ret (pe_ix (oIx K) (pe_c (c_l_fields T) hr (by first | decide | omega) at0 rfl (pa_cons (pe_mk (mk_If T) hr (by first | decide | omega) (atW (takes_of (E := E) rfl rfl rfl rfl)) rfl (pa_cons (pe_ix (oIx K) (pe_lst (pa_cons (pv 1) (pa_cons pe_str pa_nil))) (pe_op op_sub (pv 0) pe_int) (fun _ _ => rfl)) (pa_cons (pe_ix (oIx K) (pe_lst (pa_cons pe_str (pa_cons (pv 1) pa_nil))) (pe_op op_sub (pv 0) pe_int) (fun _ _ => rfl)) (pa_cons (pe_mk (mk_Program T) hr (by first | decide | omega) (atW (takes_of (E := E) rfl rfl rfl rfl)) rfl (pa_cons (pe_lst pa_nil) pa_nil)) (pa_cons (pe_mk (mk_Program T) hr (by first | decide | omega) (atW (takes_of (E := E) rfl rfl rfl rfl)) rfl (pa_cons (pe_lst pa_nil) pa_nil)) pa_nil))))) pa_nil)) (pe_op op_sub (pv 0) pe_int) (fun _ _ => rfl))))
        pss_nil)
      (pss_cons (ps_if (pt_cmpR op_lt (pv 0) pe_int (nomark _))
        (pss_one (ps_ret (pe_ix (oIx K) (pe_c (c_l_fields T) hr (by first | decide | omega) at0 rfl (pa_cons (pe_mk (mk_While T) hr (by first | decide | omega) (atW (takes_of (E := E) rfl rfl rfl rfl)) rfl (pa_cons (pe_ix (oIx K) (pe_lst (pa_cons (pv 1) (pa_cons pe_str pa_nil))) (pe_op op_sub (pv 0) pe_int) (fun _ _ => rfl)) (pa_cons (pe_ix (oIx K) (pe_lst (pa_cons pe_str (pa_cons (pv 1) pa_nil))) (pe_op op_sub (pv 0) pe_int) (fun _ _ => rfl)) (pa_cons (pe_mk (mk_Program T) hr (by first | decide | omega) (atW (takes_of (E := E) rfl rfl rfl rfl)) rfl (pa_cons (pe_lst pa_nil) pa_nil)) pa_nil)))) pa_nil)) (pe_op op_sub (pv 0) pe_int) (fun _ _ => rfl))))
        pss_nil)
      (pss_one (ps_ret (oFld K (pe_mk (mk_Mark T) hr (by first | decide | omega) (atW (takes_of (E := E) rfl rfl rfl rfl)) rfl (pa_cons (pv 1) pa_nil))))))))))), ?_⟩
  walk_at "go"
  refine s_eq rfl ?_
  walk_at "go"
  refine iteD (fun h1 => ?_) fun h1 => ?_
  · -- a board of two cells
    walk_at "go"
    refine ⟨by show 2 ≤ sizeLine; decide, ?_⟩
    walk_at "new"; rename_i l1 n1 H1 s1 e1
    walk_at "go"
    refine ⟨by show 2 ≤ sizeLine; decide, ?_⟩
    walk_at "new"; rename_i t1 n2 H2 s2 e2
    walk_at "go"
    refine ⟨by show 2 ≤ sizeLine; decide, ?_⟩
    walk_at "new"; rename_i l2 n3 H3 s3 e3
    walk_at "go"
    refine ⟨by show 2 ≤ sizeLine; decide, ?_⟩
    walk_at "new"; rename_i t2 n4 H4 s4 e4
    walk_at "go"
    refine ⟨by show 2 ≤ sizeLine; decide, ?_⟩
    walk_at "new"; rename_i L n5 H5 s5 e5
    walk_at "go"
    walk_at "made"; rename_i x dx nx nd ne H6 s6 e6
    have p1 : PairL K t1 ("a", ["b", "c"]) H5 := ⟨l1, .inl (.inl (s5 _ _ (s4 _ _ (s3 _ _ e2)))), SqL.of (s5 _ _ (s4 _ _ (s3 _ _ (s2 _ _ e1))))⟩
    have p2 : PairL K t2 (z, ["b", "c"]) H5 := ⟨l2, .inl (.inl (s5 _ _ e4)), SqL.of (s5 _ _ (s4 _ _ e3))⟩
    have sH : Same H H5 := (((s1.trans s2).trans s3).trans s4).trans s5
    refine ⟨x, L, dx, [t1, t2], [("a", ["b", "c"]), (z, ["b", "c"])], rfl, e6, SqL.of (s6 _ _ e5), ⟨rfl, fun i a c q1 q2 => ?_⟩, ⟨by show 2 ≤ 100000; decide, fun c hc => ?_⟩, fun r hr => ?_, fun no H' hB hb => ?_⟩
    · match i, q1, q2 with
      | 0, q1, q2 => cases q1; cases q2; exact p1.mono s6
      | 1, q1, q2 => cases q1; cases q2; exact p2.mono s6
      | i + 2, q1, q2 => simp at q1
    · rcases List.mem_cons.mp hc with rfl | hc
      · exact ⟨Nat.le_trans la (by decide), small2 lb lc⟩
      · rw [List.mem_singleton.mp hc]
        exact ⟨Nat.le_trans zl (by decide), small2 lb lc⟩
    · rw [two_cells tx] at hr
      cases e : isNm z.cps.toList with
      | true => rw [e] at hr; cases hr
      | false => rw [e] at hr; cases hr; exact (ke e).mono (sH.trans s6)
    · rw [two_cells tx] at no
      have nm : isNm z.cps.toList = true := by
        cases e : isNm z.cps.toList with
        | true => rfl
        | false => rw [e] at no; cases no
      have s7 : Same H H' := fun b o e => hb b o ((sH.trans s6) b o e) (ne_of_none (sH _ _ e) nx)
      refine ⟨rfl, ?_⟩
      obtain ⟨dx', t, as, hx, ht, hA⟩ := id hB
      refine ⟨x, dx', _, rfl, hx, no_cells, ?_⟩
      walk_at "go"
      refine ⟨x, _, rfl, hB, by show 2 ≤ 100000; decide, fun l H2 nl s2 hl => ?_⟩
      walk_at "go"
      refine s_ixL (SqL.of hl) (at_of (j := 1) (by decide) rfl) ?_
      exact k nm _ (s7.trans s2)
  · walk_at "go"
    have g1 : ¬ d = 0 := fun e => h1 (congrArg V.int e)
    refine iteD (fun h2 => ?_) fun h2 => ?_
    · -- a board of one cell
      walk_at "go"
      refine ⟨by show 3 ≤ sizeLine; decide, ?_⟩
      walk_at "new"; rename_i l1 n1 H1 s1 e1
      walk_at "go"
      refine ⟨by show 3 ≤ sizeLine; decide, ?_⟩
      walk_at "new"; rename_i l2 n2 H2 s2 e2
      walk_at "go"
      refine ⟨by show 2 ≤ sizeLine; decide, ?_⟩
      walk_at "new"; rename_i l3 n3 H3 s3 e3
      walk_at "go"
      have hd : d = 1 ∨ d = 2 := by omega
      obtain ⟨l, vs, hp, hl, hnd, hsm, hv1, hv0, hix, hat⟩ : ∃ (l : Addr) (vs : List Str), H3 l = some (.lst (vs.map V.str)) ∧ vs.length = 3 ∧ vs.Nodup ∧ Small vs ∧ (isNm z.cps.toList = true → badNm vs = none) ∧ (isNm z.cps.toList = false → badNm vs = some z) ∧ atI (vs.map V.str) (2 * (2 - d)) = some (.str z) ∧ atI [V.ref l1, V.ref l2] (d - 1) = some (.ref l) := by
        rcases hd with rfl | rfl
        · exact ⟨l1, ["nine", "ten", z], s3 _ _ (s2 _ _ e1), rfl, by simp [tx.2.2.1.symm, tx.2.2.2.symm]; decide +kernel, small3 l9 l10 zl, (fun e => by rw [badNm_cons nm_nine, badNm_cons nm_ten, badNm_cons e, badNm_nil]), (fun e => by rw [badNm_cons nm_nine, badNm_cons nm_ten, badNm_hit e]), at_of (j := 2) (by decide) rfl, at_of (j := 0) (by decide) rfl⟩
        · exact ⟨l2, [z, "nine", "ten"], s3 _ _ e2, rfl, by simp [tx.2.2.1, tx.2.2.2]; decide +kernel, small3 zl l9 l10, (fun e => by rw [badNm_cons e, badNm_cons nm_nine, badNm_cons nm_ten, badNm_nil]), (fun e => badNm_hit e), at_of (j := 0) (by decide) rfl, at_of (j := 1) (by decide) rfl⟩
      refine s_ixL (SqL.of e3) hat ?_
      walk_at "go"
      refine ⟨by show 2 ≤ sizeLine; decide, ?_⟩
      walk_at "new"; rename_i t1 n4 H4 s4 e4
      walk_at "go"
      refine ⟨by show 1 ≤ sizeLine; decide, ?_⟩
      walk_at "new"; rename_i L n5 H5 s5 e5
      walk_at "go"
      walk_at "made"; rename_i x dx nx nd ne H6 s6 e6
      have p1 : PairL K t1 ("a", vs) H5 := ⟨l, .inl (.inl (s5 _ _ e4)), SqL.of (s5 _ _ (s4 _ _ hp))⟩
      have sH : Same H H5 := (((s1.trans s2).trans s3).trans s4).trans s5
      have rf : boardRf [("a", vs)] = _ := one_cell hl hnd hv1 hv0
      refine ⟨x, L, dx, [t1], [("a", vs)], rfl, e6, SqL.of (s6 _ _ e5), ⟨rfl, fun i a c q1 q2 => ?_⟩, ⟨by show 1 ≤ 100000; decide, fun c hc => ?_⟩, fun r hr => ?_, fun no H' hB hb => ?_⟩
      · match i, q1, q2 with
        | 0, q1, q2 => cases q1; cases q2; exact p1.mono s6
        | i + 1, q1, q2 => simp at q1
      · rw [List.mem_singleton.mp hc]
        exact ⟨Nat.le_trans la (by decide), hsm⟩
      · rw [rf] at hr
        cases e : isNm z.cps.toList with
        | true => rw [e] at hr; cases hr
        | false => rw [e] at hr; cases hr; exact (ke e).mono (sH.trans s6)
      · rw [rf] at no
        have nm : isNm z.cps.toList = true := by
          cases e : isNm z.cps.toList with
          | true => rfl
          | false => rw [e] at no; cases no
        have s7 : Same H H' := fun b o e => hb b o ((sH.trans s6) b o e) (ne_of_none (sH _ _ e) nx)
        refine ⟨rfl, ?_⟩
        obtain ⟨dx', t, as, hx, ht, hA⟩ := id hB
        refine ⟨x, dx', _, rfl, hx, no_vof, ?_⟩
        walk_at "go"
        have fc : cellOf [("a", vs)] "a" = (some ("a", vs) : Option Ce) := by
          unfold cellOf; rw [List.find?_cons]; simp
        refine ⟨x, _, _, rfl, hB, by show 1 ≤ 100000; decide, fun h => ?_, fun c hc l' H8 nl s8 hl' => ?_⟩
        · rw [fc] at h; cases h
        · rw [fc] at hc; cases hc
          walk_at "go"
          refine s_I (.inl ⟨by decide, by decide⟩) ?_
          refine s_ixL (SqL.of hl') hix ?_
          exact k nm _ (s7.trans s8)
    · walk_at "go"
      refine iteD (fun h3 => ?_) fun h3 => ?_
      · obtain ⟨c, v, i1, i2, i3, hsm, q1, q0⟩ := pick2 zl (e := d - 3) (by omega)
        obtain ⟨w1, w0⟩ := of_bad q1 q0
        walk_at "go"
        refine ⟨by show 2 ≤ sizeLine; decide, ?_⟩
        walk_at "new"; rename_i l1 n1 H1 s1 e1
        walk_at "go"
        refine s_ixL (SqL.of e1) i1 ?_
        walk_at "go"
        refine ⟨by show 2 ≤ sizeLine; decide, ?_⟩
        walk_at "new"; rename_i l2 n2 H2 s2 e2
        walk_at "go"
        refine s_ixL (SqL.of e2) i2 ?_
        walk_at "go"
        walk_at "made"; rename_i x dx nx nd ne H6 s6 e6
        refine ⟨x, dx, [.str c, .str v], [c, v], rfl, rfl, hsm, e6, fun y h => ?_, fun h H7 hx hb => ⟨rfl, ?_⟩⟩
        · obtain ⟨b1, rfl⟩ := w0 y h
          exact (ke b1).mono ((s1.trans s2).trans s6)
        · have nm := w1 h
          have s7 : Same H H7 := fun b o e => hb b o (((s1.trans s2).trans s6) b o e) (ne_of_none ((s1.trans s2) _ _ e) nx)
          walk_at "go"
          refine ⟨x, _, dx, _, _, _, rfl, hx, T.cl_Write, T.na_Write_cell, T.na_Write_value, cv_c, cv_v, ?_⟩
          walk_at "new"; rename_i l8 n8 H8 s8 e8
          walk_at "go"
          refine s_ixL (SqL.of e8) i3 ?_
          exact k nm _ (s7.trans s8)
      · walk_at "go"
        refine iteD (fun h5 => ?_) fun h5 => ?_
        · obtain ⟨c, v, i1, i2, i3, hsm, q1, q0⟩ := pick2 zl (e := d - 5) (by omega)
          obtain ⟨w1, w0⟩ := of_bad q1 q0
          walk_at "go"
          refine ⟨by show 2 ≤ sizeLine; decide, ?_⟩
          walk_at "new"; rename_i l1 n1 H1 s1 e1
          walk_at "go"
          refine s_ixL (SqL.of e1) i1 ?_
          walk_at "go"
          refine ⟨by show 2 ≤ sizeLine; decide, ?_⟩
          walk_at "new"; rename_i l2 n2 H2 s2 e2
          walk_at "go"
          refine s_ixL (SqL.of e2) i2 ?_
          walk_at "go"
          walk_at "made"; rename_i x dx nx nd ne H6 s6 e6
          refine ⟨x, dx, [.str c, .str v], [c, v], rfl, rfl, hsm, e6, fun y h => ?_, fun h H7 hx hb => ⟨rfl, ?_⟩⟩
          · obtain ⟨b1, rfl⟩ := w0 y h
            exact (ke b1).mono ((s1.trans s2).trans s6)
          · have nm := w1 h
            have s7 : Same H H7 := fun b o e => hb b o (((s1.trans s2).trans s6) b o e) (ne_of_none ((s1.trans s2) _ _ e) nx)
            walk_at "go"
            refine ⟨x, _, dx, _, _, _, rfl, hx, T.cl_Wait, T.na_Wait_cell, T.na_Wait_value, cv_c, cv_v, ?_⟩
            walk_at "new"; rename_i l8 n8 H8 s8 e8
            walk_at "go"
            refine s_ixL (SqL.of e8) i3 ?_
            exact k nm _ (s7.trans s8)
        · walk_at "go"
          refine iteD (fun h7 => ?_) fun h7 => ?_
          · obtain ⟨c, v, i1, i2, i3, hsm, q1, q0⟩ := pick2 zl (e := d - 7) (by omega)
            obtain ⟨w1, w0⟩ := of_bad q1 q0
            walk_at "go"
            refine ⟨by show 2 ≤ sizeLine; decide, ?_⟩
            walk_at "new"; rename_i l1 n1 H1 s1 e1
            walk_at "go"
            refine s_ixL (SqL.of e1) i1 ?_
            walk_at "go"
            refine ⟨by show 2 ≤ sizeLine; decide, ?_⟩
            walk_at "new"; rename_i l2 n2 H2 s2 e2
            walk_at "go"
            refine s_ixL (SqL.of e2) i2 ?_
            walk_at "go"
            refine ⟨Nat.zero_le _, ?_⟩
            walk_at "new"; rename_i m0 u0 G0 t0 f0
            walk_at "go"
            walk_at "made"; rename_i y0 dy0 ny0 nz0 nw0 J0 r0 g0
            refine ⟨y0, m0, dy0, rfl, g0, SqL.of (r0 _ _ f0), fun I0 tt0 hy0 hty0 hb0 => ⟨rfl, ?_⟩⟩
            have sP0 : Same H I0 := fun b o e => hb0 b o ((((s1.trans s2).trans t0).trans r0) b o e) (ne_of_none (((s1.trans s2).trans t0) _ _ e) ny0)
            walk_at "go"
            refine ⟨Nat.zero_le _, ?_⟩
            walk_at "new"; rename_i m1 u1 G1 t1 f1
            walk_at "go"
            walk_at "made"; rename_i y1 dy1 ny1 nz1 nw1 J1 r1 g1
            refine ⟨y1, m1, dy1, rfl, g1, SqL.of (r1 _ _ f1), fun I1 tt1 hy1 hty1 hb1 => ⟨rfl, ?_⟩⟩
            have sP1 : Same H I1 := fun b o e => hb1 b o (((sP0.trans t1).trans r1) b o e) (ne_of_none ((sP0.trans t1) _ _ e) ny1)
            walk_at "go"
            walk_at "made"; rename_i x dx nx nd ne H6 s6 e6
            refine ⟨x, dx, [.str c, .str v, .ref y0, .ref y1], [c, v], rfl, rfl, hsm, e6, fun y h => ?_, fun h H7 hx hb => ⟨rfl, ?_⟩⟩
            · obtain ⟨b1, rfl⟩ := w0 y h
              exact (ke b1).mono (sP1.trans s6)
            · have nm := w1 h
              have s7 : Same H H7 := fun b o e => hb b o ((sP1.trans s6) b o e) (ne_of_none (sP1 _ _ e) nx)
              walk_at "go"
              refine ⟨x, _, dx, _, _, _, rfl, hx, T.cl_If, T.na_If_cell, T.na_If_value, cv_c, cv_v, ?_⟩
              walk_at "new"; rename_i l8 n8 H8 s8 e8
              walk_at "go"
              refine s_ixL (SqL.of e8) i3 ?_
              exact k nm _ (s7.trans s8)
          · walk_at "go"
            refine iteD (fun h9 => ?_) fun h9 => ?_
            · obtain ⟨c, v, i1, i2, i3, hsm, q1, q0⟩ := pick2 zl (e := d - 9) (by omega)
              obtain ⟨w1, w0⟩ := of_bad q1 q0
              walk_at "go"
              refine ⟨by show 2 ≤ sizeLine; decide, ?_⟩
              walk_at "new"; rename_i l1 n1 H1 s1 e1
              walk_at "go"
              refine s_ixL (SqL.of e1) i1 ?_
              walk_at "go"
              refine ⟨by show 2 ≤ sizeLine; decide, ?_⟩
              walk_at "new"; rename_i l2 n2 H2 s2 e2
              walk_at "go"
              refine s_ixL (SqL.of e2) i2 ?_
              walk_at "go"
              refine ⟨Nat.zero_le _, ?_⟩
              walk_at "new"; rename_i m0 u0 G0 t0 f0
              walk_at "go"
              walk_at "made"; rename_i y0 dy0 ny0 nz0 nw0 J0 r0 g0
              refine ⟨y0, m0, dy0, rfl, g0, SqL.of (r0 _ _ f0), fun I0 tt0 hy0 hty0 hb0 => ⟨rfl, ?_⟩⟩
              have sP0 : Same H I0 := fun b o e => hb0 b o ((((s1.trans s2).trans t0).trans r0) b o e) (ne_of_none (((s1.trans s2).trans t0) _ _ e) ny0)
              walk_at "go"
              walk_at "made"; rename_i x dx nx nd ne H6 s6 e6
              refine ⟨x, dx, [.str c, .str v, .ref y0], [c, v], rfl, rfl, hsm, e6, fun y h => ?_, fun h H7 hx hb => ⟨rfl, ?_⟩⟩
              · obtain ⟨b1, rfl⟩ := w0 y h
                exact (ke b1).mono (sP0.trans s6)
              · have nm := w1 h
                have s7 : Same H H7 := fun b o e => hb b o ((sP0.trans s6) b o e) (ne_of_none (sP0 _ _ e) nx)
                walk_at "go"
                refine ⟨x, _, dx, _, _, _, rfl, hx, T.cl_While, T.na_While_cell, T.na_While_value, cv_c, cv_v, ?_⟩
                walk_at "new"; rename_i l8 n8 H8 s8 e8
                walk_at "go"
                refine s_ixL (SqL.of e8) i3 ?_
                exact k nm _ (s7.trans s8)
            · have hd : d = 11 := by omega
              walk_at "go"
              walk_at "made"; rename_i x dx nx nd ne H6 s6 e6
              have w1 : badNm [z] = none → isNm z.cps.toList = true := fun h => by
                cases e : isNm z.cps.toList with
                | true => rfl
                | false => rw [badNm_hit e] at h; cases h
              have w0 : ∀ y, badNm [z] = some y → isNm z.cps.toList = false ∧ y = z := fun y h => by
                cases e : isNm z.cps.toList with
                | true => rw [badNm_cons e, badNm_nil] at h; cases h
                | false => rw [badNm_hit e] at h; cases h; exact ⟨rfl, rfl⟩
              refine ⟨x, dx, [.str z], [z], rfl, rfl, ⟨by show 1 ≤ 100000; decide, fun y hy => by rw [List.mem_singleton.mp hy]; omega⟩, e6, fun y h => ?_, fun h H7 hx hb => ⟨rfl, ?_⟩⟩
              · obtain ⟨b1, rfl⟩ := w0 y h
                exact (ke b1).mono s6
              · have s7 : Same H H7 := fun b o e => hb b o (s6 b o e) (ne_of_none e nx)
                refine ⟨x, _, dx, _, _, rfl, hx, T.cl_Mark, T.na_Mark_name, lk1, ?_⟩
                exact k (w1 h) _ s7
end

section
variable {P : Program} {w : World} {K : PySem.W.Frag} {mg : Str → Option Value} {base : Heap}
def foundV (z : Str) : List V := if isNm z.cps.toList then [.str "made", .str z] else [.str "refused", .str z, .bl true, .bl true, .bl false]
def sp_l_found (K : PySem.W.Frag) : Sp := fun vs H Q _ => ∃ (d : Int) (z : Str), vs = [.int d, .str z] ∧ 0 ≤ d ∧ d < 12 ∧ Tx z ∧ ∀ p H', Same H H' → H' p = some (.tup (foundV z)) → Q (.ref p) H'
theorem c_l_found (T : Txt K mg) : Cal P w K mg base CX0 9 "_law_found" (sp_l_found K) := by
  obtain ⟨fd, F⟩ := T.d_l_found
  refine ⟨_, fd, _, F.ok (k := 8) sc_l_found (fun vs H Q E h => by obtain ⟨_, _, rfl, _⟩ := h; rfl) (fun cdv A outer s H vs Q E hr h => ?_), T.g_l_found, F.kp, F.bindsN fun _ _ _ _ _ _ us hl => match us, hl with | [_, _], _ => rfl⟩
  obtain ⟨d, z, rfl, hd0, hd1, tx, k⟩ := h
  refine ⟨_, PSs.nox (pss_cons (ps_set (i := 2) sc_l_found.nd rfl (.inl rfl) pe_non)
      (pss_cons (ps_try_as (i := 3) rfl rfl sc_l_found.nd rfl rfl ⟨rfl, by decide, Or.inl T.g_NoName⟩ takes0
        (fun W pn xe tk PO => (pss_one (ps_set (i := 2) sc_l_found.nd rfl (.inl rfl) (pe_tup (pa_cons pe_str (pa_cons (pe_c (c_l_made T) hr (by first | decide | omega) (atW tk) rfl (pa_cons (pv 0) (pa_cons (pv 1) pa_nil))) pa_nil))))))
        (fun a oe cls d pn hz hf => (pss_one (ps_set (i := 2) sc_l_found.nd rfl (.inl rfl) (pe_tup (pa_cons pe_str (pa_cons (pe_xA hz hf (pv 3)) (pa_cons (pe_callB (call_isX hz hf) (by rfl) T.n_isinstance (by decide +kernel) (pa_cons (pv 3) (pa_cons (C8.pe_gc (v := .ref (He.ga K "BoardError")) rfl ⟨_, T.g_BoardError, rfl⟩) pa_nil))) (pa_cons (pe_callB (call_isX hz hf) (by rfl) T.n_isinstance (by decide +kernel) (pa_cons (pv 3) (pa_cons (pe_bltn (v := .ty "ValueError") (u := .type "ValueError") rfl T.n_ValueError (by decide +kernel) rfl) pa_nil))) (pa_cons (pe_callB (call_isX hz hf) (by rfl) T.n_isinstance (by decide +kernel) (pa_cons (pv 3) (pa_cons (C8.pe_gc (v := .ref (He.ga K "Twice")) rfl ⟨_, T.g_Twice, rfl⟩) pa_nil))) pa_nil))))))))))
      (pss_one (ps_ret (pv 2))))), ?_⟩
  walk_at "go"
  refine ⟨d, z, rfl, hd0, hd1, tx, fun nm H1 s1 => ?_, fun nm d' H1 hd' s1 e1 => ?_⟩
  · walk_at "go"
    refine ⟨by show 2 ≤ sizeLine; decide, ?_⟩
    walk_at "new"; rename_i p n2 H2 s2 e2
    walk_at "go"
    exact k p _ (s1.trans s2) (by rw [e2]; unfold foundV; rw [nm]; rfl)
  · refine ⟨true, T.em_NoName_NoName, fun _ a ha => ?_, fun q => nomatch q⟩
    walk_at "go"
    refine ⟨_, T.x_NoName, T.na_NoName_name, _, rfl, rfl, rfl, d', _, .str z, rfl, e1, lk1, ?_⟩
    walk_at "go"
    refine ⟨_, d', _, _, _, true, rfl, rfl, e1, T.x_NoName, rfl, fun _ h => h, T.ki_NoName_BoardError, ?_⟩
    walk_at "go"
    refine ⟨_, d', _, _, _, true, rfl, rfl, e1, T.x_NoName, rfl, fun _ h => h, T.ki_NoName_ValueError, ?_⟩
    walk_at "go"
    refine ⟨_, d', _, _, _, false, rfl, rfl, e1, T.x_NoName, rfl, fun _ h => h, T.ki_NoName_Twice, ?_⟩
    walk_at "go"
    refine ⟨by show 5 ≤ sizeLine; decide, ?_⟩
    walk_at "new"; rename_i p n2 H2 s2 e2
    walk_at "go"
    exact k p _ (s1.trans s2) (by rw [e2]; unfold foundV; rw [nm]; rfl)
/-! ### the law -/
def spLaw (K : PySem.W.Frag) : Sp := fun vs H Q _ => ∃ (a : Addr) (ns : List Int), vs = [.ref a] ∧ SqL K H a (ns.map V.int) ∧ ns.length ≤ 63 ∧ ∀ H', Q (.bl true) H'
def dpV : V → PyData
  | .str z => .str z
  | .bl b => .bool b
  | _ => .none
theorem dp_found {z : Str} {p : Addr} {H : Hp} (h : H p = some (.tup (foundV z))) : Dp K H (.ref p) (.tuple ((foundV z).map dpV)) := by
  refine .tup (.inl (.inl h)) ?_
  unfold foundV
  cases isNm z.cps.toList
  · exact .cons (.str _) (.cons (.str _) (.cons (.bl _) (.cons (.bl _) (.cons (.bl _) .nil))))
  · exact .cons (.str _) (.cons (.str _) .nil)
theorem canLay_strs {x y : Str} (hx : Ok x) (hy : Ok y) : (PyData.tuple [.str x, .str y]).canLay0 = true := by simp [PyData.canLay0, PyData.canLayAll0, hx.to, hy.to]
theorem ok_w1 : Ok "made" := ok_const (by decide +kernel)
theorem ok_w2 : Ok "refused" := ok_const (by decide +kernel)
theorem can_found {z : Str} (h : Ok z) : (PyData.tuple ((foundV z).map dpV)).canLay0 = true := by
  unfold foundV
  cases isNm z.cps.toList
  · simp [dpV, PyData.canLay0, PyData.canLayAll0, h.to, ok_w2.to]
  · simp [dpV, PyData.canLay0, PyData.canLayAll0, h.to, ok_w1.to]
theorem shaped_found {z : Str} (h : Ok z) : SeqAt.shaped (.tuple ((foundV z).map dpV)) = true := by
  show (_ && decide (_ ≤ 64)) = true
  rw [can_found h]
  unfold foundV
  cases isNm z.cps.toList <;> rfl
theorem eqv_found {z : Str} (h : Ok z) : PyData.eqv (.tuple ((foundV z).map dpV)) (.tuple ((foundV z).map dpV)) = true := SeqAt.eqv_refl _ (can_found h)
theorem ok_law (T : Txt K mg) {fd : FuncData} (F : FunD K "law" "law" (defArgs s_law) (defBody s_law) (defScope s_law) [] [] (He.fAd K ("law", none)) fd) : FnOk P w K mg base CX0 10 (He.fAd K ("law", none)) fd ["_law_script"] (spLaw K) := by
  refine F.ok (k := 9) sc_law (fun vs H Q E h => by obtain ⟨_, _, rfl, _⟩ := h; rfl) (fun cdv A outer s H vs Q E hr h => ?_)
  obtain ⟨a, ns, rfl, hS, hl, k⟩ := h
  refine ⟨_, PSs.nox (pss_cons (ps_for PassesOwn.never rfl (oIt K (pe_slice (oSl K) (pe_op (oAdd K) (pv 0) (pe_lst (pa_cons pe_int pa_nil))) po_none (po_some pe_int))) (pg_name (i := 1) sc_law.nd rfl (.inl rfl))
        (pss_cons (ps_set (i := 2) sc_law.nd rfl (.inl rfl) (pe_c (c_l_state T) hr (by first | decide | omega) at0 rfl (pa_cons (pv 1) pa_nil)))
        (pss_cons (ps_set (i := 3) sc_law.nd rfl (.inl rfl) (pe_c (c_l_digit T) hr (by first | decide | omega) at0 rfl (pa_cons (pv 2) (pa_cons pe_int pa_nil))))
        (pss_cons (ps_set (i := 4) sc_law.nd rfl (.inl rfl) (pe_c (c_l_text T) hr (by first | decide | omega) at0 rfl (pa_cons (pv 2) pa_nil)))
        (pss_cons (ps_if (pt_cmpR (oIn K) (pv 4) (pe_tup (pa_cons pe_str (pa_cons pe_str (pa_cons pe_str pa_nil)))) (by rfl))
          (pss_one (ps_set (i := 4) sc_law.nd rfl (.inl rfl) pe_str))
          pss_nil)
        (pss_cons (ps_set (i := 5) sc_law.nd rfl (.inl rfl) (pe_tup (pa_cons pe_str (pa_cons (pv 4) pa_nil))))
        (pss_cons (ps_if (pt_not (pt_val (pe_c (c_l_is_name T) hr (by first | decide | omega) at0 rfl (pa_cons (pv 4) pa_nil))))
          (pss_one (ps_set (i := 5) sc_law.nd rfl (.inl rfl) (pe_tup (pa_cons pe_str (pa_cons (pv 4) (pa_cons pe_bl (pa_cons pe_bl (pa_cons pe_bl pa_nil))))))))
          pss_nil)
        (pss_one (ps_if (PW.pt (pw_or (pt_cmpR (oNe K hr.units) (pe_c (c_l_found T) hr (by first | decide | omega) at0 rfl (pa_cons (pv 3) (pa_cons (pv 4) pa_nil))) (pv 5) (nomark _)) (pw_or1 (pt_cmpR (oNe K hr.units) (pe_c (c_l_found T) hr (by first | decide | omega) at0 rfl (pa_cons (pv 3) (pa_cons (pv 4) pa_nil))) (pv 5) (nomark _)))))
          (pss_one (ps_ret pe_bl))
          pss_nil)))))))))
      (pss_one (ps_ret pe_bl))), ?_⟩
  walk_at "go"
  refine s_itL ?_
  walk_at "go"
  refine ⟨by show 1 ≤ sizeLine; decide, ?_⟩
  walk_at "new"; rename_i p1 n1 H1 s1 e1
  refine s_addL (s1.seq hS) (SqL.of e1) (line_of (by rw [List.length_map]; show ns.length + 1 ≤ 100000; omega)) ?_
  walk_at "new"; rename_i p2 n2 H2 s2 e2
  walk_at "go"
  refine s_slL (SqL.of e2) ?_
  walk_at "new"; rename_i p3 n3 H3 s3 e3
  have allI : ∀ x ∈ cutV (ns.map V.int ++ [V.int 0]) none (some 40), ∃ n, x = V.int n := fun x hx => by
    have hx' : x ∈ ns.map V.int ++ [V.int 0] := List.mem_of_mem_drop (List.mem_of_mem_take hx)
    rcases List.mem_append.mp hx' with h | h
    · obtain ⟨n, _, rfl⟩ := List.mem_map.mp h; exact ⟨n, rfl⟩
    · exact ⟨0, List.mem_singleton.mp h⟩
  refine ⟨p3, rfl, ⟨_, SqL.of e3⟩, for_all (still_list (SqL.of e3)) (fun i σ _ => ∃ v1 v2 v3 v4 v5, σ = [some (.ref a), v1, v2, v3, v4, v5]) (fun _ _ _ _ _ q => q) ⟨_, _, _, _, _, rfl⟩ (fun i x σ' H' hi hx s4 hp => ?_) fun σ' H' s4 hp => ?_⟩
  · obtain ⟨v1, v2, v3, v4, v5, rfl⟩ := hp
    obtain ⟨n, rfl⟩ := allI x (List.mem_of_getElem? hx)
    walk_at "go"
    refine ⟨n, rfl, fun sd H5 n5 s5 d5 => ?_⟩
    walk_at "go"
    refine ⟨sd, 12, rfl, d5, by decide, by decide, fun r H6 r0 r1 d6 b6 => ?_⟩
    walk_at "go"
    refine ⟨sd, rfl, d6, fun z H7 zl oz d7 b7 => ?_⟩
    have s7 : Same H' H7 := But.same s5 n5 (b6.trans b7)
    walk_at "go"
    refine ⟨by show 3 ≤ sizeLine; decide, ?_⟩
    walk_at "new"; rename_i p8 n8 H8 s8 e8
    refine s_inT (.inl (.inl e8)) rfl rfl ?_
    walk_at "go"
    have s48 := (s4.trans s7).trans s8
    have both : ∃ y : Str, y = (if inV (V.str z) [V.str "a", V.str "nine", V.str "ten"] = true then ("other" : Str) else z) ∧ Tx y ∧ Ok y := by
      by_cases hin : inV (V.str z) [V.str "a", V.str "nine", V.str "ten"] = true
      · refine ⟨_, rfl, ?_, ?_⟩
        · rw [if_pos hin]; exact ⟨by decide +kernel, by decide +kernel, by decide +kernel, by decide +kernel⟩
        · rw [if_pos hin]; exact ok_const (by decide +kernel)
      · refine ⟨_, rfl, ?_, ?_⟩
        · rw [if_neg hin]
          rw [show [V.str "a", V.str "nine", V.str "ten"] = (["a", "nine", "ten"] : List Str).map V.str from rfl, inV_strs] at hin
          simp at hin
          exact ⟨zl, hin.1, hin.2.1, hin.2.2⟩
        · rw [if_neg hin]; exact oz
    obtain ⟨y, ey, ty, oy⟩ := both
    refine iteB (fun hin => ?_) fun hin => ?_
    all_goals
      rw [hin] at ey
      walk_at "go"
      first
        | (have ey' : ("other" : Str) = y := ey.symm
           rw [ey'])
        | (have ey' : z = y := ey.symm
           rw [ey'])
      refine ⟨by show 2 ≤ sizeLine; decide, ?_⟩
      walk_at "new"; rename_i p9 n9 H9 s9 e9
      walk_at "go"
      refine ⟨y, rfl, Nat.le_trans ty.1 (by decide), fun HA sA => ?_⟩
      walk_at "go"
      have yl : y.length ≤ 1000 := Nat.le_trans ty.1 (by decide)
      cases e : isNm y.cps.toList with
      | true =>
        walk_at "go"
        have f1 : HA p9 = some (.tup (foundV y)) := by rw [sA _ _ e9]; unfold foundV; rw [e]; rfl
        refine ⟨r, y, rfl, r0, r1, ty, fun q1 HB sB eB => ?_⟩
        walk_at "go"
        refine s_neD (dp_found eB) (dp_found (sB _ _ f1)) (shaped_found oy) (shaped_found oy) ?_
        rw [eqv_found oy]
        walk_at "go"
        refine ⟨r, y, rfl, r0, r1, ty, fun q2 HC sC eC => ?_⟩
        walk_at "go"
        refine s_neD (dp_found eC) (dp_found (sC _ _ (sB _ _ f1))) (shaped_found oy) (shaped_found oy) ?_
        rw [eqv_found oy]
        walk_at "go"
        exact ⟨(((s48.trans s9).trans sA).trans sB).trans sC, _, _, _, _, _, rfl⟩
      | false =>
        walk_at "go"
        refine ⟨by show 5 ≤ sizeLine; decide, ?_⟩
        walk_at "new"; rename_i pD nD HD sD eD
        walk_at "go"
        have f1 : HD pD = some (.tup (foundV y)) := by rw [eD]; unfold foundV; rw [e]; rfl
        refine ⟨r, y, rfl, r0, r1, ty, fun q1 HB sB eB => ?_⟩
        walk_at "go"
        refine s_neD (dp_found eB) (dp_found (sB _ _ f1)) (shaped_found oy) (shaped_found oy) ?_
        rw [eqv_found oy]
        walk_at "go"
        refine ⟨r, y, rfl, r0, r1, ty, fun q2 HC sC eC => ?_⟩
        walk_at "go"
        refine s_neD (dp_found eC) (dp_found (sC _ _ (sB _ _ f1))) (shaped_found oy) (shaped_found oy) ?_
        rw [eqv_found oy]
        walk_at "go"
        exact ⟨((((s48.trans s9).trans sA).trans sD).trans sB).trans sC, _, _, _, _, _, rfl⟩
  · obtain ⟨v1, v2, v3, v4, v5, rfl⟩ := hp
    walk_at "go"
    exact k _
end
set_option maxHeartbeats 0
/-! ### the head: the top's run, its facts by names -/
abbrev R : PySem.W.OpenRow := PySem.W.OpenLaw.row PySem.Challenge.rw_manyboard_k01_names_at_each_door
abbrev hk : PySem.W.Hook := He.hookX 6 fa fn [] [] exK
def ob (s : PySem.W.SharedT) : He.AlX := He.obsX 6 fa fn [] [] exK (HandSHeadRun.getT s)
theorem ob_eq (s : PySem.W.SharedT) : ob s = hk.obs s.abs := He.obsX_eq (HandSHeadRun.getT_eq s)
def names0 : List Str := ["_wall", "BoardError", "BadCount", "NoName", "Twice", "NoCell", "LETTERS", "LETTERS_AND_FIGURES", "LONGEST_NAME", "is_name", "need_names", "need_once", "need_count", "Board", "need_values", "MOST_STATEMENTS", "MOST_DEPTH", "Write", "Wait", "Mark", "If", "While", "Program", "braced", "programs_within", "many_in", "depth_of", "_law_cell_at", "_law_state", "_law_digit"]
def names1 : List Str := ["_law_plain", "_law_text", "_law_is_name", "_law_fields", "_law_made", "_law_found"]
def names : List Str := names0 ++ names1
theorem run (w : World) : HandSHeadRun.RunEq R (PySem.W.view R.prog [41]) hk ob 10000 names w := by
  intro os
  kernel_rfl
theorem facts {P : Program} {w : World} {K : PySem.W.Frag} {h : Heap} {mg : Str → Option Value} {f : Addr} (X : K.In h) (G : h.Ns mainGlobals mg) (hfa : mg ("law" : Str) = some (.ref f)) (c : He.SaysX fa fn [] [] exK w h K) :
    ∃ fd : FuncData, (∀ (s : Shared) (v : Value), BindsTo s fd ⟨[v], []⟩ [("_law_script", v)]) ∧ ∀ base : Heap, K.In base → base.Ns mainGlobals mg → FnOk P w K mg base CX0 10 f fd ["_law_script"] (spLaw K) := by
  have T : Txt K mg := ⟨w, h, X, G, c⟩
  obtain ⟨fd, F⟩ := T.d_law
  have e := hfa.symm.trans T.g_law
  cases e
  have b := FunD.bindsA (ps := ["_law_script"]) F fun _ _ _ _ _ _ us hl => match us, hl with | [_], _ => rfl
  exact ⟨fd, fun s v => b s [v] rfl, fun base _ _ => ok_law T F⟩
end My
open PySem PySem.W PySem.Calls PyProof.Rows
set_option maxRecDepth 100000 in
set_option maxHeartbeats 0 in
theorem PySem.Challenge.cw_manyboard_k01_names_at_each_door_holds : PySem.Challenge.rw_manyboard_k01_names_at_each_door.Holds := by
  w_on; o_law
  refine HandSHeadRun.head_any (r := OpenLaw.row PySem.Challenge.rw_manyboard_k01_names_at_each_door) (q := view (OpenLaw.row PySem.Challenge.rw_manyboard_k01_names_at_each_door).prog [41]) (H := My.hk) (ob := My.ob) (M := 10000) (loose := My.names) (d := HandSHeadRun.topDef (OpenLaw.row PySem.Challenge.rw_manyboard_k01_names_at_each_door).prog 41) (kwd := []) My.ob_eq
    (by kernel_rfl) (fun s => by kernel_rfl) My.run (by kernel_rfl) (by kernel_rfl) (by kernel_rfl) (by rfl) (by first | assumption | decide +kernel) (by decide +kernel) ⟨rfl, rfl, rfl, rfl, rfl, by decide +kernel⟩ ?hw ?hc
  case hw => w_witness2
  case hc =>
    refine L2.walk_ofE (l := PySem.Challenge.rw_manyboard_k01_names_at_each_door) (n := 63) (k := 10) (x := "_law_script") (CX := L2.CX0) rfl (by decide) (by kernel_rfl) ⟨rfl, by decide, by decide⟩ ?F (fun _ _ _ _ z => z)
    intro w mg fa h Y G hmg0
    obtain ⟨K, KX, c⟩ := Y
    have hmg : mg ("law" : PySem.Str) = some (.ref fa) := by
      have e : (HandSHeadRun.topDef (OpenLaw.row PySem.Challenge.rw_manyboard_k01_names_at_each_door).prog 41).name = ("law" : PySem.Str) := by kernel_rfl
      rw [← e]
      exact hmg0
    obtain ⟨fd, hb, hF⟩ := My.facts (P := (PySem.Challenge.rw_manyboard_k01_names_at_each_door).prog) (w := w) KX G hmg c
    exact ⟨K, fd, My.spLaw K, KX, hb, fun H a ns hl _ hS => ⟨a, ns, rfl, hS, hl, fun _ => rfl⟩, hF⟩
