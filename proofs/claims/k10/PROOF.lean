import PyProof.Rows.All
import Wide.All
import OpenK.AllK
import Wide.FinOn
import HandS.Comp
import HandS.Ends
import HandS.Text
import HandS.Words
import PyProof.ReprRoads
import HandS.Iter
import HandS.IsInst
import HandS.CallLocal
import HandS.ForMost
import PyProof.StrBlock2
import PyProof.StrLawsRepr
import HandS.TupAny
import PySem.Challenge.RW_boundonce_k10_texts_written
set_option Elab.async false
set_option linter.all false
set_option maxRecDepth 100000
set_option maxHeartbeats 4000000


/-! My own layer over the hand layer: what is wanted of an expression, a test, a statement, forward. -/
namespace My
open PySem PySem.Spec PyProof.Rows L2
section
variable {X : Cx}
def WE (X : Cx) (e : Expr) : TE := fun σ H Q => ∀ (pins : List (Addr × Obj)) (s : Shared), Inv X pins σ H s →
  wpAny (model X.prog X.w) X.A (eval e X.env) (EP X pins σ Q) X.xe s
def WT (X : Cx) (e : Expr) : TT := fun σ H Q => ∀ (pins : List (Addr × Obj)) (s : Shared), Inv X pins σ H s →
  wpAny (model X.prog X.w) X.A (isTrue e X.env (eval e X.env)) (TP X pins σ Q) X.xe s
def WW (X : Cx) (e : Expr) : TT := fun σ H Q => ∀ (whole : Sem Value) (pins : List (Addr × Obj)) (s : Shared), Inv X pins σ H s →
  wpAny (model X.prog X.w) X.A (isTrue e X.env whole) (TP X pins σ Q) X.xe s
def WA (X : Cx) (es : List Expr) : TA := fun σ H Q => ∀ (pos : Pos) (pins : List (Addr × Obj)) (s : Shared), Inv X pins σ H s →
  wpAny (model X.prog X.w) X.A (spliced (backTo pos (starEach es X.env))) (AP X pins σ Q) X.xe s
def WS (X : Cx) (st : Stmt) : TS := fun D σ H => ∀ (pins : List (Addr × Obj)) (s : Shared), Inv X pins σ H s →
  wpAny (model X.prog X.w) X.A (exec st X.env) (SP X pins D) X.xe s
def WL (X : Cx) (st : List Stmt) : TS := fun D σ H => ∀ (pins : List (Addr × Obj)) (s : Shared), Inv X pins σ H s →
  wpAny (model X.prog X.w) X.A (execs st X.env) (SP X pins D) X.xe s
theorem pE {e : Expr} : PE X e (WE X e) := ⟨fun pins s _ _ _ I h => h pins s I⟩
theorem pT {e : Expr} : PT X e (WT X e) := ⟨fun pins s _ _ _ I h => h pins s I⟩
theorem pW {e : Expr} : PW X e (WW X e) := ⟨fun wh pins s _ _ _ I h => h wh pins s I⟩
theorem pA {es : List Expr} : PA X es (WA X es) := ⟨fun pos pins s _ _ _ I h => h pos pins s I⟩
theorem pS {st : Stmt} : PS X st (WS X st) := ⟨fun pins s _ _ _ I h => h pins s I⟩
theorem pL {st : List Stmt} : PSs X st (WL X st) := ⟨fun pins s _ _ _ I h => h pins s I⟩
variable {e a b c : Expr} {es rest : List Expr} {t : TE} {tt : TT} {ta : TA} {ts : TS} {σ : L2.St} {H : Hp} {Q : VK} {R : Bool → Hp → Prop} {U : List V → Hp → Prop} {D : Ends} {pos pos' : Pos} {st : Stmt} {sts : List Stmt} {v : V} {x : Str}
theorem toE (h : PE X e t) (q : t σ H Q) : WE X e σ H Q := fun pins s I => h.run pins s σ H Q I q
theorem toT (h : PT X e tt) (q : tt σ H R) : WT X e σ H R := fun pins s I => h.run pins s σ H R I q
theorem toW (h : PW X e tt) (q : tt σ H R) : WW X e σ H R := fun wh pins s I => h.run wh pins s σ H R I q
theorem toA (h : PA X es ta) (q : ta σ H U) : WA X es σ H U := fun pos pins s I => h.run pos pins s σ H U I q
theorem toS (h : PS X st ts) (q : ts D σ H) : WS X st D σ H := fun pins s I => h.run pins s σ H D I q
theorem toL (h : PSs X sts ts) (q : ts D σ H) : WL X sts D σ H := fun pins s I => h.run pins s σ H D I q
theorem WE.mono {Q' : VK} (h : WE X e σ H Q) (k : ∀ v H', Q v H' → Q' v H') : WE X e σ H Q' := fun pins s I =>
  thn (h pins s I) fun _ _ ⟨v, H', I', r, q⟩ => ⟨v, H', I', r, k v H' q⟩
theorem SP.mono {pins : List (Addr × Obj)} {D' : Ends} {f : Flow} {s' : Shared} (h : SP X pins D f s') (k1 : ∀ σ H, D.nx σ H → D'.nx σ H) (k2 : ∀ v H, D.rt v H → D'.rt v H)
    (k3 : ∀ σ H, D.bk σ H → D'.bk σ H) (k4 : ∀ σ H, D.ct σ H → D'.ct σ H) : SP X pins D' f s' := by
  cases f with
  | next => obtain ⟨σ', H', I, q⟩ := h; exact ⟨σ', H', I, k1 _ _ q⟩
  | brk => obtain ⟨σ', H', I, q⟩ := h; exact ⟨σ', H', I, k3 _ _ q⟩
  | cont => obtain ⟨σ', H', I, q⟩ := h; exact ⟨σ', H', I, k4 _ _ q⟩
  | ret u => obtain ⟨v, σ', H', I, r, q⟩ := h; exact ⟨v, σ', H', I, r, k2 _ _ q⟩
theorem WS.mono {D' : Ends} (h : WS X st D σ H) (k1 : ∀ σ H, D.nx σ H → D'.nx σ H) (k2 : ∀ v H, D.rt v H → D'.rt v H) (k3 : ∀ σ H, D.bk σ H → D'.bk σ H) (k4 : ∀ σ H, D.ct σ H → D'.ct σ H) : WS X st D' σ H :=
  fun pins s I => thn (h pins s I) fun _ _ q => SP.mono q k1 k2 k3 k4
/-- cut behind a statement: P stands there -/
theorem WS.cut {D : Ends} {nx : L2.St → Hp → Prop} (P : L2.St → Hp → Prop) (h : WS X st { D with nx := P } σ H) (k : ∀ σ H, P σ H → nx σ H) : WS X st { D with nx := nx } σ H :=
  WS.mono h k (fun _ _ q => q) (fun _ _ q => q) (fun _ _ q => q)

/-! expressions -/
theorem e_var (i : Nat) (h : σ[i]? = some (some v)) (q : Q v H) (hN : X.N[i]? = some x := by rfl) (hv : Vis X.env.scope x := by first | exact Or.inl rfl | exact Or.inr (Or.inl rfl) | exact Or.inr (Or.inr rfl))
    (hd : (x == ("__debug__" : Str)) = false := by decide) (hcd : (x == ("__classdict__" : Str)) = false := by decide) : WE X (.Name x pos) σ H Q := toE (pe_var hN hv hd hcd) ⟨v, h, q⟩
theorem e_int {i : Int} {j} (q : Q (.int i) H) : WE X (.Constant (.int i) j pos) σ H Q := toE pe_int q
theorem e_bl {i : Bool} {j} (q : Q (.bl i) H) : WE X (.Constant (.bool i) j pos) σ H Q := toE pe_bl q
theorem e_non {j} (q : Q .non H) : WE X (.Constant .none j pos) σ H Q := toE pe_non q
theorem e_str {z : Str} {j} (q : Q (.str z) H) : WE X (.Constant (.str z) j pos) σ H Q := toE pe_str q
theorem e_glob {u : Value} (hm : X.mg x = some u) (r : RelV v u) (q : Q v H) (hg : Gl X x := by rfl) (hd : (x == ("__debug__" : Str)) = false := by decide) : WE X (.Name x pos) σ H Q := toE (pe_glob hg hm r hd) q
theorem e_bltn {u : Value} (hm : X.mg x = none) (hv : bootBuiltins x = some u) (r : RelV v u) (q : Q v H) (hg : Gl X x := by rfl) (hn : x ≠ "__name__" := by decide) (hd : (x == ("__debug__" : Str)) = false := by decide) : WE X (.Name x pos) σ H Q :=
  toE (pe_bltn hg hm hv r hn hd) q
theorem e_op {op : Operator} {r : R2} (ho : OpR X (binaryOp op) r) (h : WE X a σ H fun x H1 => WE X b σ H1 fun y H2 => r x y H2 Q) : WE X (.BinOp a op b pos) σ H Q := toE (pe_op ho pE pE) h
theorem e_un {op : UnaryOp} {r : V → Hp → VK → Prop} (ho : UnR X (unaryOp op) r) (h : WE X a σ H fun x H1 => r x H1 Q) : WE X (.UnaryOp op a pos) σ H Q := toE (pe_un ho pE) h
theorem e_cmp {op : CmpOp} {r : R2} (ho : OpR X (compareOp op) r) (h : WE X a σ H fun x H1 => WE X b σ H1 fun y H2 => r x y H2 Q) (hm : behindInMarks op b = false := by first | exact nomark _ | with_unfolding_all rfl) : WE X (.Compare a [op] [b] pos) σ H Q :=
  toE (pe_cmpR ho pE pE hm) h
theorem e_and (h : WE X a σ H fun x H1 => ∃ k, x = .bl k ∧ (k = true → WE X (.BoolOp .And (b :: rest) pos) σ H1 Q) ∧ (k = false → Q (.bl false) H1)) : WE X (.BoolOp .And (a :: b :: rest) pos) σ H Q :=
  toE (pe_and pE pE) (WE.mono h fun v H' ⟨k, e, h1, h2⟩ => ⟨k, e, by cases k with | true => exact h1 rfl | false => exact h2 rfl⟩)
theorem e_or (h : WE X a σ H fun x H1 => ∃ k, x = .bl k ∧ (k = true → Q (.bl true) H1) ∧ (k = false → WE X (.BoolOp .Or (b :: rest) pos) σ H1 Q)) : WE X (.BoolOp .Or (a :: b :: rest) pos) σ H Q :=
  toE (pe_or pE pE) (WE.mono h fun v H' ⟨k, e, h1, h2⟩ => ⟨k, e, by cases k with | true => exact h1 rfl | false => exact h2 rfl⟩)
theorem e_one {op} (h : WE X a σ H Q) : WE X (.BoolOp op [a] pos) σ H Q := toE (pe_one pE) h
theorem e_not (h : WE X a σ H fun x H1 => ∃ k, x = .bl k ∧ Q (.bl (!k)) H1) : WE X (.UnaryOp .Not a pos) σ H Q := toE (pe_not pE) h
theorem e_if (h : WT X c σ H fun k H1 => (k = true → WE X a σ H1 Q) ∧ (k = false → WE X b σ H1 Q)) : WE X (.IfExp c a b pos) σ H Q :=
  toE (pe_ifExp (tA := fun σ H R => WT X c σ H R) pT pE pE) (fun pins s I => thn (h pins s I) fun k s' ⟨H', I', h1, h2⟩ => ⟨H', I', by cases k with | true => exact h1 rfl | false => exact h2 rfl⟩)
theorem e_tup {k} (h : WA X es σ H fun xs H1 => xs.length ≤ sizeLine ∧ ∀ p, H1 p = none → Q (.ref p) (upd H1 p (.tup xs))) : WE X (.Tuple es k pos) σ H Q := toE (pe_tup pA) h
theorem e_lst (h : WA X es σ H fun xs H1 => xs.length ≤ sizeLine ∧ ∀ p, H1 p = none → Q (.ref p) (upd H1 p (.lst xs))) : WE X (.List es pos) σ H Q := toE (pe_lst pA) h
theorem e_ix {r : R2} (hr : IxR X r) (h : WE X a σ H fun x H1 => WE X b σ H1 fun y H2 => r x y H2 Q) (hs : PlainIx b := by exact fun _ _ => rfl) : WE X (.Subscript a b pos) σ H Q := toE (pe_ix hr pE pE hs) h
theorem e_callB {id : String} {r : List V → Hp → VK → Prop} {p : Pos} (hc : CallR X (.builtin id) r) (hm : X.mg x = none) (hv : bootBuiltins x = some (.builtin id)) (h : WA X (e :: es) σ H fun vs H1 => r vs H1 Q) (hg : Gl X x := by rfl)
    (hn : x ≠ "__name__" := by decide) (hdb : (x == ("__debug__" : Str)) = false := by decide) (he : starEach (e :: es) X.env = (false, eval e X.env) :: starEach es X.env := by rfl) (hpl : (backTo pos (starEach es X.env)).any (·.1) = false := by rfl) :
    WE X (.Call (.Name x p) (e :: es) [] pos) σ H Q := toE (pe_callB hc hg hm hv pA hn hdb he hpl) h
theorem e_callT {T : String} {r : List V → Hp → VK → Prop} {p : Pos} (hc : CallR X (.type T) r) (hm : X.mg x = none) (hv : bootBuiltins x = some (.type T)) (h : WA X (e :: es) σ H fun vs H1 => r vs H1 Q) (hg : Gl X x := by rfl)
    (hn : x ≠ "__name__" := by decide) (hdb : (x == ("__debug__" : Str)) = false := by decide) (he : starEach (e :: es) X.env = (false, eval e X.env) :: starEach es X.env := by rfl) (hpl : (backTo pos (starEach es X.env)).any (·.1) = false := by rfl) :
    WE X (.Call (.Name x p) (e :: es) [] pos) σ H Q := toE (pe_callTy hc hg hm hv pA hn hdb he hpl) h
theorem a_nil (q : U [] H) : WA X [] σ H U := toA pa_nil q
theorem a_cons (h : WE X e σ H fun x H1 => WA X es σ H1 fun xs H2 => U (x :: xs) H2) (hs : starEach (e :: es) X.env = (false, eval e X.env) :: starEach es X.env := by rfl) : WA X (e :: es) σ H U := toA (pa_cons pE pA hs) h

/-! tests -/
theorem t_cmp {op : CmpOp} {r : R2} (ho : OpR X (compareOp op) r) (h : WE X a σ H fun x H1 => WE X b σ H1 fun y H2 => r x y H2 fun z H3 => ∃ k, z = .bl k ∧ R k H3) (hm : behindInMarks op b = false := by first | exact nomark _ | with_unfolding_all rfl) : WT X (.Compare a [op] [b] pos) σ H R :=
  toT (pt_cmpR ho pE pE hm) h
theorem t_chain {op op' : CmpOp} {r r' : R2} (ho : OpR X (compareOp op) r) (ho' : OpR X (compareOp op') r') (h : tChain r r' (WE X a) (WE X b) (WE X c) σ H fun z H3 => ∃ k, z = .bl k ∧ R k H3)
    (hm : lastMarks [op, op'] [b, c] = false := by with_unfolding_all rfl) : WT X (.Compare a [op, op'] [b, c] pos) σ H R := toT (pt_chain ho ho' pE pE pE hm) h
theorem e_chain {op op' : CmpOp} {r r' : R2} (ho : OpR X (compareOp op) r) (ho' : OpR X (compareOp op') r') (h : tChain r r' (WE X a) (WE X b) (WE X c) σ H Q)
    (hm : lastMarks [op, op'] [b, c] = false := by with_unfolding_all rfl) : WE X (.Compare a [op, op'] [b, c] pos) σ H Q := toE (pe_chain ho ho' pE pE pE hm) h
theorem t_not (h : WT X a σ H fun k H1 => R (!k) H1) : WT X (.UnaryOp .Not a pos) σ H R := toT (pt_not pT) h
theorem WT.mono {R' : Bool → Hp → Prop} (h : WT X e σ H R) (k : ∀ b H', R b H' → R' b H') : WT X e σ H R' := fun pins s I => thn (h pins s I) fun _ _ ⟨H', I', q⟩ => ⟨H', I', k _ H' q⟩
theorem w_and (h : WT X a σ H fun k H1 => (k = true → WW X (.BoolOp .And (b :: rest) pos) σ H1 R) ∧ (k = false → R false H1)) : WW X (.BoolOp .And (a :: b :: rest) pos) σ H R :=
  toW (pw_and pT pW) (WT.mono h fun k H' ⟨h1, h2⟩ => by cases k with | true => exact h1 rfl | false => exact h2 rfl)
theorem w_or (h : WT X a σ H fun k H1 => (k = true → R true H1) ∧ (k = false → WW X (.BoolOp .Or (b :: rest) pos) σ H1 R)) : WW X (.BoolOp .Or (a :: b :: rest) pos) σ H R :=
  toW (pw_or pT pW) (WT.mono h fun k H' ⟨h1, h2⟩ => by cases k with | true => exact h1 rfl | false => exact h2 rfl)
theorem w_and1 (h : WT X a σ H R) : WW X (.BoolOp .And [a] pos) σ H R := toW (pw_and1 pT) h
theorem w_or1 (h : WT X a σ H R) : WW X (.BoolOp .Or [a] pos) σ H R := toW (pw_or1 pT) h
theorem t_w (h : WW X e σ H R) : WT X e σ H R := fun pins s I => h _ pins s I
theorem t_val (h : WE X e σ H fun x H1 => ∃ k, x = .bl k ∧ R k H1) (he : ∀ whole, isTrue e X.env whole = (do let v ← whole; standAt e.pos; holding [v] (truthy v)) := by intro _; rfl) : WT X e σ H R := toT (pt_val pE he) h
theorem t_tru (h : WE X e σ H fun x H1 => ∃ k, TruV X.K x H1 k ∧ R k H1) (he : ∀ whole, isTrue e X.env whole = (do let v ← whole; standAt e.pos; holding [v] (truthy v)) := by intro _; rfl) : WT X e σ H R := toT (pt_truth pE he) h

/-! statements -/
theorem l_nil (q : D.nx σ H) : WL X [] D σ H := toL pss_nil q
theorem l_cons (h : WS X st { D with nx := fun σ' H' => WL X sts D σ' H' } σ H) : WL X (st :: sts) D σ H := toL (pss_cons pS pL) h
theorem l_one (h : WS X st D σ H) : WL X [st] D σ H := toL (pss_one pS) h
theorem s_ret (h : WE X e σ H D.rt) : WS X (.Return (some e) pos) D σ H := toS (ps_ret pE) h
theorem s_if {l1 l2 : List Stmt} (h : WT X c σ H fun k H1 => (k = true → WL X l1 D σ H1) ∧ (k = false → WL X l2 D σ H1)) : WS X (.If c l1 l2 pos) D σ H :=
  toS (ps_if pT pL pL) (WT.mono h fun k H' ⟨h1, h2⟩ => by cases k with | true => exact h1 rfl | false => exact h2 rfl)
theorem s_set (i : Nat) (h : WE X e σ H fun v H1 => D.nx (σ.set i (some v)) H1) (hN : X.N.Nodup) (hi : X.N[i]? = some x := by rfl) (hx : Loc X.env.scope x := by first | exact Or.inl rfl | exact Or.inr rfl)
    (hs : swapsWith e (some (.Name x pos')) pos.line X.env = pure false := by rfl) (hf : X.fn x = true ∨ X.env.scope.names.lookup x = some .local := by first | exact .inl rfl | exact .inr rfl | assumption) : WS X (.Assign [.Name x pos'] e pos) D σ H :=
  toS (ps_set hN hi hx pE hs hf) h
theorem s_expr (h : WE X e σ H fun _ H1 => D.nx σ H1) (hs : swapsWith e none pos.line X.env = pure false := by rfl) : WS X (.Expr e pos) D σ H := toS (ps_expr pE hs) h
theorem s_asg {tg : Expr} {g : TG} (hg : PG X tg g) (h : WE X e σ H fun v H1 => g v σ H1 D.nx) (hs : swapsWithSole [tg] e pos.line X.env = pure false := by rfl) (hw : swappedStores [tg] e X.env = pure none := by rfl)
    (h1 : (assignEach [tg] X.env).map (·.2) = [assign tg X.env] := by rfl) : WS X (.Assign [tg] e pos) D σ H := toS (ps_asg pE hg hs hw h1) h
end
end My

namespace My
open PySem PySem.Spec PyProof.Rows L2

/-! ### defs that may ask for a repr: called where no repr runs -/
structure FnG (P : Program) (w : World) (K : PySem.W.Frag) (mg : Str → Option Value) (base : Heap) (k : Nat) (f : Addr) (fd : FuncData) (ps : List Str) (sp : Sp) : Prop where
  len : ∀ vs H Q E, sp vs H Q E → vs.length = ps.length
  go : ∀ (B : Around) (out : List Env) (s : Shared) (H : Hp) (ar : Args) (us : List Value) (vs : List V) (Q : VK) (E : XK), Room k B → B.guards = some [] → Env0 P w K mg base B out s H →
    BindsTo s fd ar (ps.zip us) → Vals vs us → sp vs H Q E → codeAny (model P w) B (.call (.ref f) ar) (CR CX0 out P w H s Q E) s
theorem FnG.of {P : Program} {w : World} {K : PySem.W.Frag} {mg : Str → Option Value} {base : Heap} {k : Nat} {f : Addr} {fd : FuncData} {ps : List Str} {sp : Sp} (F : FnOk P w K mg base CX0 k f fd ps sp) : FnG P w K mg base k f fd ps sp :=
  ⟨F.len, fun B out s H ar us vs Q E hr _ e hb hv hs => F.run B out s H ar us vs Q E hr e hb hv hs⟩
/-- a def's body, run where no repr runs -/
theorem Fun.okG {P : Program} {w : World} {K : PySem.W.Frag} {mg : Str → Option Value} {base : Heap} {x qual : Str} {st : Stmt} {f : Addr} {fd : FuncData} {N ps : List Str} {k : Nat} {sp : Sp} (F : Fun K x qual st f fd) (S : FnScope N ps (defScope st))
    (len : ∀ vs H Q E, sp vs H Q E → vs.length = ps.length)
    (body : ∀ (cdv : Value) (B : Around) (out : List Env) (s : Shared) (H : Hp) (vs : List V) (Q : VK) (E : XK), Room k (B.deeper (envOfC qual (defScope st) s.heap.objs.size f cdv)) →
      (B.deeper (envOfC qual (defScope st) s.heap.objs.size f cdv)).guards = some [] → sp vs H Q E →
      WL (cxOf CX0 P w K mg base N qual (defScope st) f cdv B out s H E).nox (defBody st) { nx := fun _ H' => Q .non H', rt := Q } (start N vs) H) : FnG P w K mg base (k + 1) f fd ps sp := by
  obtain ⟨oc, od, kV, doc, pm, an, cdv, ct, osl, rfl, lk, hcd⟩ := F.ex
  constructor
  · exact len
  · intro B out s H ar us vs Q E hr hG e hb hv hs
    have nv : vs.length = ps.length := len _ _ _ _ hs
    have inK : K.In s.heap := e.mod.kin.keeps fun b o z => (e.bs b o z).1
    have free : s.heap.NoLimit := e.mod.nolimit.keeps fun b o z => (e.bs b o z).1
    refine codeAny_call_function hr.depth (inK _ _ lk) rfl S.co S.gen rfl (PySem.W.codeRec_of inK hcd) (hb _ _ _ _ ?_)
    refine wpAny_newFunctionEnv_cells S.kind (fun y hy => ?_) fun env he s1 z => ?_
    · rcases S.par y.1 (List.of_mem_zip (a := y.1) (b := y.2) hy).1 with q | q
      · exact Or.inl q
      · exact Or.inr ⟨q, PySem.W.cellsFrom_some _ _ _ (Or.inl q)⟩
    · subst he
      refine ⟨free.keeps z.toInCall.keep, codeAny_func ?_⟩
      have hq := body cdv B out s H vs Q E (hr.deeper _) hG hs
      have I : Inv (cxOf CX0 P w K mg base N qual (defScope st) f cdv B out s H E) [] (start N vs) H s1 := inv_start S hr.hd e nv hv z
      have run := (pL (X := (cxOf CX0 P w K mg base N qual (defScope st) f cdv B out s H E).nox)).nox.run [] s1 (start N vs) H _ I hq
      refine wpAny_mono run (fun fl s' q => ?_) fun _ _ q => q
      cases fl with
      | brk => obtain ⟨_, _, _, q⟩ := q; exact q.elim
      | cont => obtain ⟨_, _, _, q⟩ := q; exact q.elim
      | next => obtain ⟨σ', H', J, q⟩ := q; exact ⟨V.non, H', J.os, J.bare, J.base, J.hok, rfl, q⟩
      | ret u => obtain ⟨v, σ', H', J, rv, q⟩ := q; exact ⟨v, H', J.os, J.bare, J.base, J.hok, rv, q⟩
theorem Fun.okW {P : Program} {w : World} {K : PySem.W.Frag} {mg : Str → Option Value} {base : Heap} {x qual : Str} {st : Stmt} {f : Addr} {fd : FuncData} {N ps : List Str} {k : Nat} {sp : Sp} (F : Fun K x qual st f fd) (S : FnScope N ps (defScope st))
    (len : ∀ vs H Q E, sp vs H Q E → vs.length = ps.length)
    (body : ∀ (cdv : Value) (B : Around) (out : List Env) (s : Shared) (H : Hp) (vs : List V) (Q : VK) (E : XK), Room k (B.deeper (envOfC qual (defScope st) s.heap.objs.size f cdv)) → sp vs H Q E →
      WL (cxOf CX0 P w K mg base N qual (defScope st) f cdv B out s H E).nox (defBody st) { nx := fun _ H' => Q .non H', rt := Q } (start N vs) H) : FnOk P w K mg base CX0 (k + 1) f fd ps sp :=
  F.ok S len fun cdv A outer s H vs Q E hr h => ⟨_, pL, body cdv A outer s H vs Q E hr h⟩
/-- all of a def, by its name -/
structure CalN (P : Program) (w : World) (K : PySem.W.Frag) (mg : Str → Option Value) (base : Heap) (k : Nat) (x : Str) (sp : Sp) : Prop where
  ex : ∃ (f : Addr) (fd : FuncData) (ps : List Str), FnOk P w K mg base CX0 k f fd ps sp ∧ mg x = some (.ref f) ∧ PySem.W.keepIn K (.ref f) = true ∧ Binds K fd ps []
/-- all of a def that may ask for a repr, by its name -/
structure CalG (P : Program) (w : World) (K : PySem.W.Frag) (mg : Str → Option Value) (base : Heap) (k : Nat) (x : Str) (sp : Sp) : Prop where
  ex : ∃ (f : Addr) (fd : FuncData) (ps : List Str), FnG P w K mg base k f fd ps sp ∧ mg x = some (.ref f) ∧ PySem.W.keepIn K (.ref f) = true ∧ Binds K fd ps []
section
variable {X : Cx} {e : Expr} {es : List Expr} {σ : L2.St} {H : Hp} {Q : VK} {pos p : Pos} {x : Str} {k j : Nat} {sp : Sp}
theorem e_c (c : CalN X.prog X.w X.K X.mg X.base k x sp) (hr : Room j X.A) (hk : k ≤ j) (h : WA X (e :: es) σ H fun vs H1 => sp (vs ++ []) H1 Q E0) (hg : Gl X x := by rfl)
    (hdb : (x == ("__debug__" : Str)) = false := by decide) (he : starEach (e :: es) X.env = (false, eval e X.env) :: starEach es X.env := by rfl) (hpl : (backTo pos (starEach es X.env)).any (·.1) = false := by rfl) :
    WE X (.Call (.Name x p) (e :: es) [] pos) σ H Q := by
  obtain ⟨f, fd, ps, F, hm, kp, hb⟩ := c.ex
  exact toE (pe_call F (hr.mono hk) hg hm kp hb .nil pass0 pA hdb he hpl) h
theorem e_cG (c : CalG X.prog X.w X.K X.mg X.base k x sp) (hr : Room j X.A) (hG : X.A.guards = some []) (hk : k ≤ j) (h : WA X (e :: es) σ H fun vs H1 => sp vs H1 Q E0) (hg : Gl X x := by rfl)
    (hdb : (x == ("__debug__" : Str)) = false := by decide) (he : starEach (e :: es) X.env = (false, eval e X.env) :: starEach es X.env := by rfl) (hpl : (backTo pos (starEach es X.env)).any (·.1) = false := by rfl) :
    WE X (.Call (.Name x p) (e :: es) [] pos) σ H Q := by
  obtain ⟨f, fd, ps, F, hm, kp, hb⟩ := c.ex
  intro pins s I
  refine wpAny_Call_Name_kw (ld_glob I hg hm ?_ hdb)
  refine PySem.W.callWith_K (h₀ := X.base) I.ok.mod.kin kp (thn (h pos pins s I) fun us s1 ⟨vs, H1, I1, r, q⟩ => ⟨I1.kIn, ?_⟩) he hpl
  have nl : (us ++ []).length = ps.length := by rw [List.append_nil, ← r.length]; exact F.len _ _ _ _ q
  refine wpAny_call (codeAny_mono (F.go X.A X.stack s1 H1 ⟨us, []⟩ us vs Q E0 (hr.mono hk) hG I1.env0 (by simpa using hb s1 us I1.kIn nl) r q) fun r' s' z => ?_)
  cases r' with
  | error _ => exact z.elim
  | ok fl =>
    cases fl with
    | ret u => exact I1.after z
    | next => exact z.elim
    | brk => exact z.elim
    | cont => exact z.elim
end

/-! ### data and its repr -/
theorem Dp.noDict : ∀ (d : PyData) {K : PySem.W.Frag} {H : Hp} {v : V}, Dp K H v d → d.hasDict = false
  | .none, _, _, _, _ => rfl
  | .bool _, _, _, _, _ => rfl
  | .int _, _, _, _, _ => rfl
  | .str _, _, _, _, _ => rfl
  | .list ds, _, _, _, h => by cases h with | lst _ ha => exact noDictAll ds ha
  | .tuple ds, _, _, _, h => by cases h with | tup _ ha => exact noDictAll ds ha
  | .dict _, _, _, _, h => by cases h
where noDictAll : ∀ (ds : List PyData) {K : PySem.W.Frag} {H : Hp} {vs : List V}, DpAll K H vs ds → PyData.hasDictAll ds = false
  | [], _, _, _, _ => rfl
  | d :: ds, _, _, _, h => by
    cases h with
    | cons h1 h2 =>
      show (PyData.hasDict d || PyData.hasDictAll ds) = false
      rw [Dp.noDict d h1, noDictAll ds h2]
      rfl
/-- data at any depth, or a dict of scalars -/
def kD : Key → PyData
  | .inl i => .int i
  | .inr x => .str x
inductive Da (K : PySem.W.Frag) (H : Hp) : V → PyData → Prop
  | dp {v : V} {d : PyData} (h : Dp K H v d) : Da K H v d
  | dct {a : Addr} {kvs : List (Key × V)} {ds : List PyData} (h : H a = some (.dK kvs)) (e : DpAll K H (kvs.map (·.2)) ds) (flat : ∀ d ∈ ds, ∃ x, d = .str x ∨ ∃ i, d = .int i) : Da K H (.ref a) (.dict ((kvs.map fun p => kD p.1).zip ds))
section
variable {X : Cx} {pins : List (Addr × Obj)} {σ : L2.St} {H : Hp} {s : Shared}
theorem call_repr (hG : X.A.guards = some []) (hu : X.A.units + 64 < cLine) : CallR X (.builtin "repr") (fun xs H Q => ∃ x d, xs = [x] ∧ Dp X.K H x d ∧ d.showable = true ∧ d.depth ≤ 60 ∧ d.shown.length ≤ sizeLine ∧ Q (.str d.shown) H) := by
  intro pins s σ H xs us Q I r h
  obtain ⟨x, d, rfl, hd, hs, hp, hz, q⟩ := h
  obtain ⟨u, rfl, rx⟩ := vals1 r
  have nd := Dp.noDict d hd
  obtain ⟨as, rd⟩ := Dp.reads I d x u hd rx
  cases hd with
  | non => cases rx; exact PySem.P.repr_of_none ⟨.str _, H, I.tok _, ⟨_, rfl⟩, q⟩
  | bl b => cases rx; exact PySem.P.repr_of_bool ⟨.str _, H, I.tok _, ⟨_, rfl⟩, q⟩
  | int i =>
    obtain ⟨t, rfl⟩ := rx
    exact PySem.P.repr_of_int (by simpa [PyData.showable] using hs) ⟨.str _, H, I.tok _, ⟨_, rfl⟩, q⟩
  | str z =>
    obtain ⟨t, rfl⟩ := rx
    exact PySem.P.repr_of_str ⟨.str _, H, I.tok _, ⟨_, rfl⟩, q⟩ hz
  | lst _ _ =>
    cases rx
    exact repr_of_reads' rd hs (fun z => by rw [nd] at z; cases z) hG (by omega) (fun _ _ e => e) (fun h' t tk hk => ⟨.str _, H, I.kept hk, ⟨_, rfl⟩, q⟩) hz
  | tup _ _ =>
    cases rx
    exact repr_of_reads' rd hs (fun z => by rw [nd] at z; cases z) hG (by omega) (fun _ _ e => e) (fun h' t tk hk => ⟨.str _, H, I.kept hk, ⟨_, rfl⟩, q⟩) hz
end
end My

namespace My
open PySem PySem.Spec PyProof.Rows L2
section
variable {X : Cx} {σ : L2.St} {H : Hp} {Q : VK} {pos : Pos} {elt tg iter : Expr} {scope : Scope} {x : Str} {j : Nat}
/-- the block of a comprehension, in whatever frame it runs -/
def WB (X : Cx) (scope : Scope) (e : Expr) : TE := fun σ H Q => ∀ (s : Shared) (H0 : Hp) (C : Addr) (cl : List (Str × Addr)) (fp : List Addr), WE (X.blk s H0 scope (compEnvC scope cl C X.env) fp) e σ H Q
def WBT (X : Cx) (scope : Scope) (e : Expr) : TT := fun σ H R => ∀ (s : Shared) (H0 : Hp) (C : Addr) (cl : List (Str × Addr)) (fp : List Addr), WT (X.blk s H0 scope (compEnvC scope cl C X.env) fp) e σ H R
theorem set_wipe (σ : L2.St) (j : Nat) (v : V) : wipe ((wipe σ [j]).set j (some v)) [j] = wipe σ [j] := by
  show ((σ.set j none).set j (some v)).set j none = σ.set j none
  rw [List.set_set, List.set_set]
theorem e_lc {wi : TI} {pt : Pos} (j : Nat) (hi : PI X (.Name x pt) iter wi) (hN : X.N.Nodup) (ok : BlkOk X.N X.env.scope scope [(x, j)])
    (hg : ∀ (s : Shared) (H : Hp) (C : Addr) (cl : List (Str × Addr)) (fp : List Addr), PG (X.blk s H scope (compEnvC scope cl C X.env) fp) (.Name x pt) (gName j))
    (h : tLc wi (gName j) tYes (WB X scope elt) [j] σ H Q) (hc : X.calm = true := by rfl) (hs : ∀ z, foldedSetIterable iter X.env z = pure z := by intro _; rfl) :
    WE X (.ListComp elt [⟨.Name x pt, iter, [], 0⟩] scope pos) σ H Q :=
  toE (pe_lc (own := [(x, j)]) hc hN hi ok hg (fun _ _ _ _ _ => pts_nil) (fun s H0 C cl fp => ⟨fun pins s' σ' H' Q' I q => q s H0 C cl fp pins s' I⟩) hs) h
/-- over a list: Pv by the turn and the heap, D the new list -/
theorem e_lcL {pt : Pos} (j : Nat) (hN : X.N.Nodup) (ok : BlkOk X.N X.env.scope scope [(x, j)])
    (h : WE X iter σ H fun v H1 => ∃ a xs, v = .ref a ∧ SqL X.K H1 a xs ∧ ∀ D, H1 D = none → ∃ Pv : Nat → Hp → Prop, Pv 0 (upd H1 D (.lst [])) ∧ (∀ i H, i ≤ xs.length → Pv i H → SqL X.K H a xs) ∧
      (∀ i y H, xs[i]? = some y → Pv i H → WB X scope elt ((wipe σ [j]).set j (some y)) H fun z H4 => ∃ acc, H4 D = some (.lst acc) ∧ acc.length < sizeLine ∧ Pv (i + 1) (upd H4 D (.lst (acc ++ [z])))) ∧
      ∀ H, Pv xs.length H → Q (.ref D) H)
    (hg : ∀ (s : Shared) (H : Hp) (C : Addr) (cl : List (Str × Addr)) (fp : List Addr), PG (X.blk s H scope (compEnvC scope cl C X.env) fp) (.Name x pt) (gName j))
    (hc : X.calm = true := by rfl) (hs : ∀ z, foldedSetIterable iter X.env z = pure z := by intro _; rfl) :
    WE X (.ListComp elt [⟨.Name x pt, iter, [], 0⟩] scope pos) σ H Q :=
  e_lc j (pi_list pE) hN ok hg (WE.mono h fun v H1 ⟨a, xs, e, hS, k⟩ => ⟨a, e, ⟨xs, hS⟩, fun D nD => by
    obtain ⟨Pv, p0, pl, ps, pd⟩ := k D nD
    exact lc_list (g := gName j) (tt := tYes) (te := WB X scope elt) (vs := [j]) (σ := σ) Pv p0 pl (fun i y H hi p => ⟨set_wipe σ j y, ps i y H hi p⟩) pd⟩) hc hs
theorem e_lcT {pt : Pos} (j : Nat) (hN : X.N.Nodup) (ok : BlkOk X.N X.env.scope scope [(x, j)])
    (h : WE X iter σ H fun v H1 => ∃ a xs, v = .ref a ∧ SqT X.K H1 a xs ∧ ∀ D, H1 D = none → ∃ Pv : Nat → Hp → Prop, Pv 0 (upd H1 D (.lst [])) ∧ (∀ i H, i ≤ xs.length → Pv i H → SqT X.K H a xs) ∧
      (∀ i y H, xs[i]? = some y → Pv i H → WB X scope elt ((wipe σ [j]).set j (some y)) H fun z H4 => ∃ acc, H4 D = some (.lst acc) ∧ acc.length < sizeLine ∧ Pv (i + 1) (upd H4 D (.lst (acc ++ [z])))) ∧
      ∀ H, Pv xs.length H → Q (.ref D) H)
    (hg : ∀ (s : Shared) (H : Hp) (C : Addr) (cl : List (Str × Addr)) (fp : List Addr), PG (X.blk s H scope (compEnvC scope cl C X.env) fp) (.Name x pt) (gName j))
    (hc : X.calm = true := by rfl) (hs : ∀ z, foldedSetIterable iter X.env z = pure z := by intro _; rfl) :
    WE X (.ListComp elt [⟨.Name x pt, iter, [], 0⟩] scope pos) σ H Q :=
  e_lc j (pi_tup pE) hN ok hg (WE.mono h fun v H1 ⟨a, xs, e, hS, k⟩ => ⟨a, e, ⟨xs, hS⟩, fun D nD => by
    obtain ⟨Pv, p0, pl, ps, pd⟩ := k D nD
    exact lc_tup (g := gName j) (tt := tYes) (te := WB X scope elt) (vs := [j]) (σ := σ) Pv p0 pl (fun i y H hi p => ⟨set_wipe σ j y, ps i y H hi p⟩) pd⟩) hc hs
theorem WA.mono {es : List Expr} {U U' : List V → Hp → Prop} (h : WA X es σ H U) (k : ∀ vs H', U vs H' → U' vs H') : WA X es σ H U' := fun pos pins s I => thn (h pos pins s I) fun _ _ ⟨vs, H', I', r, q⟩ => ⟨vs, H', I', r, k vs H' q⟩
/-- over range(n) -/
theorem e_lcR {a : Expr} {p pc pt : Pos} (j : Nat) (hm : X.mg "range" = none) (hN : X.N.Nodup) (ok : BlkOk X.N X.env.scope scope [(x, j)])
    (h : WE X a σ H fun v H1 => ∃ n : Nat, v = .int n ∧ n < 2 ^ 62 ∧ ∀ D, H1 D = none → ∃ Pv : Nat → Hp → Prop, Pv 0 (upd H1 D (.lst [])) ∧
      (∀ i H, i < n → Pv i H → WB X scope elt ((wipe σ [j]).set j (some (.int i))) H fun z H4 => ∃ acc, H4 D = some (.lst acc) ∧ acc.length < sizeLine ∧ Pv (i + 1) (upd H4 D (.lst (acc ++ [z])))) ∧
      ∀ H, Pv n H → Q (.ref D) H)
    (hg : ∀ (s : Shared) (H : Hp) (C : Addr) (cl : List (Str × Addr)) (fp : List Addr), PG (X.blk s H scope (compEnvC scope cl C X.env) fp) (.Name x pt) (gName j))
    (hgl : Gl X "range" := by rfl) (hst : starEach [a] X.env = [(false, eval a X.env)] := by rfl)
    (hc : X.calm = true := by rfl) (hs : ∀ z, foldedSetIterable (.Call (.Name "range" p) [a] [] pc) X.env z = pure z := by intro _; rfl) :
    WE X (.ListComp elt [⟨.Name x pt, .Call (.Name "range" p) [a] [] pc, [], 0⟩] scope pos) σ H Q :=
  e_lc j (pi_range1 hgl hm (pA (es := [a])) hst) hN ok hg (a_cons (WE.mono h fun v H1 ⟨n, e, hn, k⟩ => a_nil ⟨(n : Int), by rw [e], by omega, by omega, fun D nD => by
    obtain ⟨Pv, p0, ps, pd⟩ := k D nD
    have en : ((n : Int)).toNat = n := by omega
    rw [en]
    refine lc_range (g := gName j) (tt := tYes) (te := WB X scope elt) (vs := [j]) (σ := σ) Pv p0 (fun i H hi p => ⟨set_wipe σ j _, ?_⟩) pd
    have e0 : (0 : Int) + (i : Int) = (i : Int) := Int.zero_add _
    rw [e0]
    exact ps i H hi p⟩) (by rw [hst]; rfl)) hc hs
/-- over a text, sign by sign -/
theorem e_lcS {pt : Pos} (j : Nat) (hN : X.N.Nodup) (ok : BlkOk X.N X.env.scope scope [(x, j)])
    (h : WE X iter σ H fun v H1 => ∃ z : Str, v = .str z ∧ ∀ D, H1 D = none → ∃ Pv : Nat → Hp → Prop, Pv 0 (upd H1 D (.lst [])) ∧
      (∀ i c H, z.cps[i]? = some c → Pv i H → WB X scope elt ((wipe σ [j]).set j (some (.str ⟨#[c]⟩))) H fun z H4 => ∃ acc, H4 D = some (.lst acc) ∧ acc.length < sizeLine ∧ Pv (i + 1) (upd H4 D (.lst (acc ++ [z])))) ∧
      ∀ H, Pv z.cps.size H → Q (.ref D) H)
    (hg : ∀ (s : Shared) (H : Hp) (C : Addr) (cl : List (Str × Addr)) (fp : List Addr), PG (X.blk s H scope (compEnvC scope cl C X.env) fp) (.Name x pt) (gName j))
    (hc : X.calm = true := by rfl) (hs : ∀ z, foldedSetIterable iter X.env z = pure z := by intro _; rfl) :
    WE X (.ListComp elt [⟨.Name x pt, iter, [], 0⟩] scope pos) σ H Q :=
  e_lc j (pi_str pE) hN ok hg (WE.mono h fun v H1 ⟨z, e, k⟩ => ⟨z, e, fun D nD => by
    obtain ⟨Pv, p0, ps, pd⟩ := k D nD
    refine ⟨fun i m H => m = z.cps.size - i ∧ i ≤ z.cps.size ∧ Pv i H, ⟨z.cps.size, by simp, Nat.zero_le _, p0⟩, ?_⟩
    rintro i m H ⟨rfl, hi, p⟩
    by_cases hlt : i < z.cps.size
    · refine .inr ⟨hlt, Pv (i + 1), fun H' p' => ⟨z.cps.size - (i + 1), by omega, rfl, hlt, p'⟩, fun y H' hy => ?_⟩
      obtain ⟨rfl, c, hcx, rfl⟩ := hy
      exact ⟨set_wipe σ j _, ps i c _ hcx p⟩
    · have e : i = z.cps.size := by omega
      subst e
      exact .inl ⟨Nat.le_refl _, pd H p⟩⟩) hc hs
end
/-! ### loops -/
section
variable {X : Cx} {σ : L2.St} {H : Hp} {pos : Pos} {tg iter : Expr} {body : List Stmt} {D : Ends} {g : TG}
theorem s_for {wi : TI} (hi : PI X tg iter wi) (hg : PG X tg g) (h : tFor wi g (WL X body) D σ H) (hp : PassesOwn (model X.prog X.w) X.A X.env X.xe) (hc : X.calm = true := by rfl)
    (hs : ∀ x, foldedSetIterable iter X.env x = pure x := by intro _; rfl) : WS X (.For tg iter body [] pos) D σ H := toS (ps_for hp hc hi hg pL hs) h
theorem s_forL (hg : PG X tg g) (h : WE X iter σ H fun v H1 => ∃ a xs, v = .ref a ∧ SqL X.K H1 a xs ∧ ∃ Pv : Nat → L2.St → Hp → Prop, Pv 0 σ H1 ∧ (∀ i σ H, i ≤ xs.length → Pv i σ H → SqL X.K H a xs) ∧
      (∀ i y σ H, xs[i]? = some y → Pv i σ H → g y σ H fun σ2 H2 => WL X body { D with nx := Pv (i + 1), ct := Pv (i + 1), bk := D.nx } σ2 H2) ∧ ∀ σ H, Pv xs.length σ H → D.nx σ H)
    (hp : PassesOwn (model X.prog X.w) X.A X.env X.xe) (hc : X.calm = true := by rfl) (hs : ∀ x, foldedSetIterable iter X.env x = pure x := by intro _; rfl) : WS X (.For tg iter body [] pos) D σ H :=
  s_for (pi_list pE) hg (WE.mono h fun v H1 ⟨a, xs, e, hS, Pv, p0, pl, ps, pd⟩ => ⟨a, e, ⟨xs, hS⟩, for_list Pv p0 pl ps pd⟩) hp hc hs
theorem s_forR {a : Expr} {p pc : Pos} (hm : X.mg "range" = none) (hg : PG X tg g) (h : WE X a σ H fun v H1 => ∃ n : Nat, v = .int n ∧ n < 2 ^ 62 ∧ ∃ Pv : Nat → L2.St → Hp → Prop, Pv 0 σ H1 ∧
      (∀ i σ H, i < n → Pv i σ H → g (.int i) σ H fun σ2 H2 => WL X body { D with nx := Pv (i + 1), ct := Pv (i + 1), bk := D.nx } σ2 H2) ∧ ∀ σ H, Pv n σ H → D.nx σ H)
    (hp : PassesOwn (model X.prog X.w) X.A X.env X.xe) (hgl : Gl X "range" := by rfl) (hst : starEach [a] X.env = [(false, eval a X.env)] := by rfl) (hc : X.calm = true := by rfl)
    (hs : ∀ z, foldedSetIterable (.Call (.Name "range" p) [a] [] pc) X.env z = pure z := by intro _; rfl) : WS X (.For tg (.Call (.Name "range" p) [a] [] pc) body [] pos) D σ H :=
  s_for (pi_range1 hgl hm (pA (es := [a])) hst) hg (a_cons (WE.mono h fun v H1 ⟨n, e, hn, Pv, p0, ps, pd⟩ => a_nil ⟨(n : Int), by rw [e], by omega, by omega, by
    have en : ((n : Int)).toNat = n := by omega
    rw [en]
    refine for_range Pv p0 (fun i σ H hi p => ?_) pd
    have e0 : (0 : Int) + (i : Int) = (i : Int) := Int.zero_add _
    rw [e0]
    exact ps i σ H hi p⟩) (by rw [hst]; rfl)) hp hc hs
end
end My

namespace My
open PySem PySem.Spec PyProof.Rows L2
/-- the call of a law whose def may ask for a repr, from one abstract heap that knows the script at most -/
theorem law_core {P : Program} {w : World} {K : PySem.W.Frag} {mg mb : Str → Option Value} {k : Nat} {fa a : Addr} {fd : FuncData} {x : Str} {sp : Sp} {s₁ : Shared} {vs : List Value} {H : Hp}
    (KX : K.In s₁.heap) (hns : s₁.heap.Ns mainGlobals mg) (hb : s₁.heap.Ns builtinsNs mb) (hbb : ∀ x : Str, x ≠ "__name__" → mb x = bootBuiltins x) (hlim : s₁.heap.NoLimit) (hg : s₁.gens = #[])
    (ha : s₁.heap.get? a = some { cls := .type "list", data := .seq vs.toArray }) (hr : Room k callerA)
    (F : ∀ base : Heap, K.In base → base.Ns mainGlobals mg → FnG P w K mg base k fa fd [x] sp) (bind : ∀ (s : Shared) (u : Value), BindsTo s fd ⟨[u], []⟩ [(x, u)])
    (hO : Only H) (hok : HOk P w H s₁.heap) (at' : ∀ b, H b ≠ none → b = a) (hK : H a ≠ none → K.lookup a = none) (hsp : sp [.ref a] H (fun v _ => v = .bl true) fun _ _ _ => False) :
    codeAny (model P w) callerA (.call (.ref fa) ⟨[.ref a], []⟩) (fun r s' => r = .ok (.ret (.bool true)) ∧ OldK s₁.heap s'.heap ∧ s'.os = s₁.os ∧ AllBare s'.gens) s₁ := by
  have unl : ∀ {b : Addr} {m : Str → Option Value}, s₁.heap.Ns b m → (hidT s₁.heap H).Ns b m := by
    rintro b m ⟨o, es, ep, e, d, r⟩
    refine ⟨o, es, ep, hidT_get e ?_, d, r⟩
    refine Classical.byContradiction fun z => ?_
    have eb := at' b z
    rw [eb, ha] at e
    rw [← Option.some.inj e] at d
    exact Data.noConfusion d
  have inK : K.In (hidT s₁.heap H) := fun b o e => hidT_get (KX b o e) (Classical.byContradiction fun z => by
    have eb := at' b z
    subst eb
    rw [hK z] at e
    cases e)
  have md : Mod K mg (hidT s₁.heap H) := { kin := inK, glob := unl hns, blt := ⟨mb, unl hb, hbb⟩, nolimit := by obtain ⟨mc, h1, h2⟩ := hlim; exact ⟨mc, unl h1, h2⟩ }
  have e0 : Env0 P w K mg (hidT s₁.heap H) callerA [] s₁ H :=
    { frames := rfl, mod := md, bs := fun b o e => of_hidT e, bsz := Nat.le_of_eq (hidT_size _ _), funs := trivial, frf := fun b z => absurd (show b ∈ ([] : List Addr) from z) (by simp), hok := hok, bare := .of_eq hg }
  have run := (F _ inK (unl hns)).go callerA [] s₁ H ⟨[.ref a], []⟩ [.ref a] [.ref a] _ _ hr rfl e0 (bind s₁ (.ref a)) (.cons rfl .nil) hsp
  refine codeAny_mono run fun r s' z => ?_
  match r, z with
  | .error e, z => exact False.elim z
  | .ok .next, z => exact False.elim z
  | .ok .brk, z => exact False.elim z
  | .ok .cont, z => exact False.elim z
  | .ok (.ret u), z =>
    obtain ⟨v, H', h1, h2, h3, h4, h5, h6⟩ := z
    have ev : v = .bl true := h6
    rw [ev] at h5
    have eu : u = Value.bool true := h5
    rw [eu]
    refine ⟨rfl, OldK.of_keep fun b o e => ?_, h1, h2⟩
    rcases hO b with n | ⟨ob, xs, n⟩
    · exact h3.keep b o e n (fun z => by cases z) (fun z => by cases z)
    · obtain ⟨g1, _⟩ := hok b _ n
      obtain ⟨g2, _⟩ := h4 b _ (h3.frzs b ob _ n)
      rw [e] at g1
      rw [Option.some.inj g1]
      exact g2
theorem law_G {P : Program} {w : World} {K : PySem.W.Frag} {mg mb : Str → Option Value} {k : Nat} {fa a : Addr} {fd : FuncData} {x : Str} {sp : Sp} {s₁ : Shared} {vs : List Value} {ns : List Int}
    (KX : K.In s₁.heap) (hns : s₁.heap.Ns mainGlobals mg) (hb : s₁.heap.Ns builtinsNs mb) (hbb : ∀ x : Str, x ≠ "__name__" → mb x = bootBuiltins x) (hlim : s₁.heap.NoLimit) (hg : s₁.gens = #[])
    (ha : s₁.heap.get? a = some { cls := .type "list", data := .seq vs.toArray }) (hi : IntsAre vs ns) (hl : ns.length ≤ sizeLine) (hr : Room k callerA)
    (F : ∀ base : Heap, K.In base → base.Ns mainGlobals mg → FnG P w K mg base k fa fd [x] sp) (bind : ∀ (s : Shared) (u : Value), BindsTo s fd ⟨[u], []⟩ [(x, u)])
    (hsp : ∀ H : Hp, Only H → SqL K H a (ns.map V.int) → sp [.ref a] H (fun v _ => v = .bl true) fun _ _ _ => False) :
    codeAny (model P w) callerA (.call (.ref fa) ⟨[.ref a], []⟩) (fun r s' => r = .ok (.ret (.bool true)) ∧ OldK s₁.heap s'.heap ∧ s'.os = s₁.os ∧ AllBare s'.gens) s₁ := by
  have rv := vals_ints hi
  have nl : vs.length ≤ sizeLine := by rw [hi.length]; exact hl
  cases hk : K.lookup a with
  | some o =>
    have e := KX a o hk
    rw [ha] at e
    have eo := Option.some.inj e
    subst eo
    exact law_core (H := fun _ => none) KX hns hb hbb hlim hg ha hr F bind (fun _ => .inl rfl) (fun b u z => by cases z) (fun b z => absurd rfl z) (fun z => absurd rfl z)
      (hsp _ (fun _ => .inl rfl) (.inr ⟨_, vs.toArray, _, hk, rfl, rfl, rfl, by simpa using nl, by simpa using rv⟩))
  | none =>
    have only : Only (upd (fun _ => none) a (.frz { cls := .type "list", data := .seq vs.toArray } (.lst (ns.map V.int)))) := fun b => by
      by_cases e : b = a
      · exact .inr ⟨_, _, by rw [e, upd_same]⟩
      · exact .inl (upd_ne e)
    refine law_core (H := upd (fun _ => none) a (.frz { cls := .type "list", data := .seq vs.toArray } (.lst (ns.map V.int)))) KX hns hb hbb hlim hg ha hr F bind only (fun b u z => ?_) (fun b z => ?_) (fun _ => hk)
      (hsp _ only (.inl (.inr ⟨_, upd_same⟩)))
    · by_cases e : b = a
      · subst e
        rw [upd_same] at z
        have eu := Option.some.inj z
        subst eu
        exact ⟨ha, by rw [List.length_map]; exact hl, vs, _, rv, ha⟩
      · rw [upd_ne e] at z
        cases z
    · refine Classical.byContradiction fun e => z ?_
      rw [upd_ne e]
theorem walk_G {l : PySem.W.OpenLaw} {n k : Nat} {q : Program} {loose : List Str} {XP : (Str → Option Value) → Heap → Prop} {YP : World → Heap → Prop} {d : DefRec} {K : Params → PySem.W.Frag} {sp : World → Sp} {x : Str}
    (hn : l.most = some n) (hn2 : n ≤ sizeLine) (hdf : d.params.defaults = []) (hr : Room k callerA) (hY : ∀ (w : World) (h : Heap), YP w h → (K w.params).In h)
    (F : ∀ (w : World) (mg : Str → Option Value) (fa : Addr) (h : Heap), (K w.params).In h → h.Ns mainGlobals mg → mg d.name = some (.ref fa) →
      ∃ fd : FuncData, (∀ (s : Shared) (u : Value), BindsTo s fd ⟨[u], []⟩ [(x, u)]) ∧ ∀ base : Heap, (K w.params).In base → base.Ns mainGlobals mg → FnG l.prog w (K w.params) mg base k fa fd [x] (sp w))
    (hsp : ∀ (w : World) (H : Hp) (a : Addr) (ns : List Int), ns.length ≤ n → Only H → SqL (K w.params) H a (ns.map V.int) → sp w [.ref a] H (fun v _ => v = .bl true) fun _ _ _ => False) :
    PySem.W.WalkO q loose XP YP l.row.toRowW d [] (fun f vs => PySem.call f vs) :=
  Att.attach_call hn hdf fun w s₀ s₁ mg mb fa o pm cd doc a vs ns G Y ho hd hcd hmg hobj hints hlen hg => by
    have KX := hY w _ Y
    obtain ⟨fd, bind, f⟩ := F w mg fa _ KX G.T.g hmg
    exact law_G KX G.T.g G.T.b G.T.builtins G.T.nolimit hg hobj hints (Nat.le_trans hlen hn2) hr f bind fun H hO hS => hsp w H a ns hlen hO hS
end My

namespace My
open PySem PySem.Spec PyProof.Rows L2
theorem same_new {H : Hp} {p : Addr} {o : HO} (h : H p = none) : Same H (upd H p o) := fun b x e => by rw [upd_ne (ne_of_none e h)]; exact e
theorem Same.seqT {K : PySem.W.Frag} {H H' : Hp} {a : Addr} {xs : List V} (e : Same H H') (h : SqT K H a xs) : SqT K H' a xs := by
  rcases h with (h | ⟨o, h⟩) | h
  · exact .inl (.inl (e _ _ h))
  · exact .inl (.inr ⟨o, e _ _ h⟩)
  · exact .inr h
/-- a change of what H does not know -/
theorem same_mut {H H' : Hp} {p : Addr} {o : HO} (e : Same H H') (h : H p = none) : Same H (upd H' p o) := fun b x z => by rw [upd_ne (ne_of_none z h)]; exact e b x z
/-- all but the object at p is as it was -/
def But (p : Addr) (H H' : Hp) : Prop := ∀ b o, b ≠ p → H b = some o → H' b = some o
theorem But.refl (p : Addr) (H : Hp) : But p H H := fun _ _ _ e => e
theorem But.trans {p : Addr} {H H1 H2 : Hp} (a : But p H H1) (b : But p H1 H2) : But p H H2 := fun c o n e => b c o n (a c o n e)
theorem But.of {p : Addr} {H H' : Hp} (e : Same H H') : But p H H' := fun b o _ h => e b o h
theorem But.upd {p : Addr} {H : Hp} {o : HO} : But p H (upd H p o) := fun b x n e => by rw [upd_ne n]; exact e
theorem But.free {p a : Addr} {H H' : Hp} (e : But p H H') (n : a ≠ p) (h : H' a = none) : H a = none := by
  cases q : H a with
  | none => rfl
  | some o => rw [e a o n q] at h; cases h
section
variable {X : Cx} {a b c e l : Expr} {es : List Expr} {σ : L2.St} {H : Hp} {Q : VK} {R : Bool → Hp → Prop} {D : Ends} {pos p p2 p3 pc apos : Pos} {x : Str}
/-- e[:h] of a list; of a tuple -/
theorem e_slL {h : Expr} (k : WE X e σ H fun x H1 => WE X h σ H1 fun y H2 => ∃ i a xs, y = .int i ∧ x = .ref a ∧ SqL X.K H2 a xs ∧ ∀ q, H2 q = none → Q (.ref q) (upd H2 q (.lst (cutV xs none (some i))))) :
    WE X (.Subscript e (.Slice none (some h) none p2) pos) σ H Q :=
  toE (pe_slice sl_list pE po_none (po_some pE)) (WE.mono k fun x H1 k1 => WE.mono k1 fun y H2 ⟨i, a, xs, e1, e2, hS, q⟩ => ⟨i, e1, a, xs, e2, hS, q⟩)
theorem e_slT {h : Expr} (k : WE X e σ H fun x H1 => WE X h σ H1 fun y H2 => ∃ i a xs, y = .int i ∧ x = .ref a ∧ SqT X.K H2 a xs ∧ ¬ (HT.sIx xs.length 0 none = 0 ∧ HT.sIx xs.length xs.length (some i) = xs.length) ∧ ∀ q, H2 q = none → Q (.ref q) (upd H2 q (.tup (cutV xs none (some i))))) :
    WE X (.Subscript e (.Slice none (some h) none p2) pos) σ H Q :=
  toE (pe_slice sl_tup pE po_none (po_some pE)) (WE.mono k fun x H1 k1 => WE.mono k1 fun y H2 ⟨i, a, xs, e1, e2, hS, hn, q⟩ => ⟨i, e1, a, xs, e2, hS, hn, q⟩)
/-- ints: a + b, a * b, a % b, a // b -/
theorem e_addI (k : WE X a σ H fun x H1 => WE X b σ H1 fun y H2 => ∃ i j, x = .int i ∧ y = .int j ∧ Q (.int (i + j)) H2) : WE X (.BinOp a .Add b pos) σ H Q := e_op op_add k
theorem e_subI (k : WE X a σ H fun x H1 => WE X b σ H1 fun y H2 => ∃ i j, x = .int i ∧ y = .int j ∧ Q (.int (i - j)) H2) : WE X (.BinOp a .Sub b pos) σ H Q := e_op op_sub k
theorem e_mulI (k : WE X a σ H fun x H1 => WE X b σ H1 fun y H2 => ∃ i j, x = .int i ∧ y = .int j ∧ CMul i j ∧ Q (.int (i * j)) H2) : WE X (.BinOp a .Mult b pos) σ H Q := e_op op_mul k
theorem e_modI (k : WE X a σ H fun x H1 => WE X b σ H1 fun y H2 => ∃ i j, x = .int i ∧ y = .int j ∧ 0 < j ∧ Q (.int (i % j)) H2) : WE X (.BinOp a .Mod b pos) σ H Q := e_op op_mod k
theorem e_divI (k : WE X a σ H fun x H1 => WE X b σ H1 fun y H2 => ∃ i j, x = .int i ∧ y = .int j ∧ CDiv i j ∧ Q (.int (i / j)) H2) : WE X (.BinOp a .FloorDiv b pos) σ H Q := e_op op_fdiv k
theorem e_addS (k : WE X a σ H fun x H1 => WE X b σ H1 fun y H2 => ∃ i j, x = .str i ∧ y = .str j ∧ i.length + j.length ≤ sizeLine ∧ Q (.str (i ++ j)) H2) : WE X (.BinOp a .Add b pos) σ H Q := e_op op_add_str k
theorem e_cat (k : WE X a σ H fun x H1 => WE X b σ H1 fun y H2 => ∃ l m xs zs, x = .ref l ∧ y = .ref m ∧ H2 l = some (.lst xs) ∧ H2 m = some (.lst zs) ∧ xs.length + zs.length ≤ sizeLine ∧ ∀ q, H2 q = none → Q (.ref q) (upd H2 q (.lst (xs ++ zs)))) : WE X (.BinOp a .Add b pos) σ H Q := e_op op_cat k
theorem e_ixL (k : WE X a σ H fun x H1 => WE X b σ H1 fun y H2 => ∃ l xs i v, x = .ref l ∧ y = .int i ∧ SqL X.K H2 l xs ∧ atI xs i = some v ∧ Q v H2) (hs : PlainIx b := by exact fun _ _ => rfl) : WE X (.Subscript a b pos) σ H Q := e_ix ix_list k hs
theorem e_ixT (k : WE X a σ H fun x H1 => WE X b σ H1 fun y H2 => ∃ l xs i v, x = .ref l ∧ y = .int i ∧ SqT X.K H2 l xs ∧ atI xs i = some v ∧ Q v H2) (hs : PlainIx b := by exact fun _ _ => rfl) : WE X (.Subscript a b pos) σ H Q := e_ix ix_tup k hs
theorem mul_sk : OpR X (binaryOp .Mult) (fun x y H Q => ∃ z n, x = .str z ∧ y = .int n ∧ PySem.MulOk z n ∧ Q (.str (Txt.mul z n)) H) := by
  intro pins s σ H x y v u Q I rx ry h
  obtain ⟨z, n, rfl, rfl, hz, q⟩ := h
  obtain ⟨t, rfl⟩ := rx
  obtain ⟨t', rfl⟩ := ry
  exact PySem.SB.mul hz (fun t' k => ⟨.str _, H, I.tok _, ⟨_, rfl⟩, q⟩)
/-- int(e) -/
theorem e_intI (hm : X.mg "int" = none) (k : WE X e σ H fun x H1 => (∃ i, x = .int i ∧ Q (.int i) H1) ∨ ∃ b, x = .bl b ∧ Q (.int (if b then 1 else 0)) H1) (hg : Gl X "int" := by rfl)
    (he : starEach [e] X.env = (false, eval e X.env) :: starEach [] X.env := by rfl) (hpl : (backTo pos (starEach [] X.env)).any (·.1) = false := by rfl) : WE X (.Call (.Name "int" p) [e] [] pos) σ H Q :=
  e_callT call_int1 hm PyProof.Rows.boot_int (a_cons (WE.mono k fun x H1 k1 => a_nil (by
    rcases k1 with ⟨i, rfl, q⟩ | ⟨b, rfl, q⟩
    · exact .inl ⟨i, rfl, q⟩
    · exact .inr ⟨b, rfl, q⟩)) he) hg (by decide) (by decide) he hpl
/-- len(e) -/
theorem e_len (hm : X.mg "len" = none) (k : WE X e σ H fun x H1 => ∃ l xs, x = .ref l ∧ (SqL X.K H1 l xs ∨ SqT X.K H1 l xs) ∧ Q (.int xs.length) H1) (hg : Gl X "len" := by rfl)
    (he : starEach [e] X.env = (false, eval e X.env) :: starEach [] X.env := by rfl) (hpl : (backTo pos (starEach [] X.env)).any (·.1) = false := by rfl) : WE X (.Call (.Name "len" p) [e] [] pos) σ H Q :=
  e_callB call_len_seq hm PySem.boot_len (a_cons (WE.mono k fun x H1 ⟨l, xs, e1, hS, q⟩ => a_nil ⟨l, xs, by rw [e1], hS, q⟩) he) hg (by decide) (by decide) he hpl
theorem e_lenS (hm : X.mg "len" = none) (k : WE X e σ H fun x H1 => ∃ z, x = .str z ∧ z.length ≤ sizeLine ∧ Q (.int z.length) H1) (hg : Gl X "len" := by rfl)
    (he : starEach [e] X.env = (false, eval e X.env) :: starEach [] X.env := by rfl) (hpl : (backTo pos (starEach [] X.env)).any (·.1) = false := by rfl) : WE X (.Call (.Name "len" p) [e] [] pos) σ H Q :=
  e_callB call_len_str hm PySem.boot_len (a_cons (WE.mono k fun x H1 ⟨z, e1, hS, q⟩ => a_nil ⟨z, by rw [e1], hS, q⟩) he) hg (by decide) (by decide) he hpl
/-- isinstance(e, T) -/
theorem e_isi {T : String} (hi : X.mg "isinstance" = none) (hT : X.mg x = none) (bT : bootBuiltins x = some (.type T)) (k : WE X e σ H fun v H1 => ∃ t b, TyX X.K H1 v (.type t) ∧ kitB t T = some b ∧ Q (.bl b) H1)
    (hg : Gl X "isinstance" := by rfl) (hgT : Gl X x := by rfl) (hn : x ≠ "__name__" := by decide) (hd : (x == ("__debug__" : Str)) = false := by decide)
    (he : starEach [e, .Name x p2] X.env = (false, eval e X.env) :: starEach [.Name x p2] X.env := by rfl) (he2 : starEach [.Name x p2] X.env = (false, eval (.Name x p2) X.env) :: starEach [] X.env := by rfl)
    (hpl : (backTo pos (starEach [.Name x p2] X.env)).any (·.1) = false := by rfl) :
    WE X (.Call (.Name "isinstance" p) [e, .Name x p2] [] pos) σ H Q :=
  e_callB call_isi hi PyProof.Rows.boot_isinstance (a_cons (WE.mono k fun v H1 ⟨t, b, ht, hk, q⟩ => a_cons (e_bltn (v := .ty T) hT bT rfl (a_nil ⟨v, .ty T, .type t, .type T, b, rfl, .ty T, ht, kit_ty hk, q⟩) hgT hn hd) he2) he) hg (by decide) (by decide) he hpl
/-- lo <= e <= hi -/
theorem t_btw (k : WE X a σ H fun x H1 => WE X b σ H1 fun y H2 => ∃ i j, x = .int i ∧ y = .int j ∧ (i ≤ j → WE X c σ H2 fun z H3 => ∃ m, z = .int m ∧ R (decide (j ≤ m)) H3) ∧ (¬ i ≤ j → R false H2))
    (hm : lastMarks [.LtE, .LtE] [b, c] = false := by with_unfolding_all rfl) : WT X (.Compare a [.LtE, .LtE] [b, c] pos) σ H R :=
  t_chain op_le op_le (WE.mono k fun x H1 k1 => WE.mono k1 fun y H2 ⟨i, j, e1, e2, h1, h2⟩ => ⟨i, j, e1, e2, decide (i ≤ j), rfl, by
    by_cases hij : i ≤ j
    · rw [decide_eq_true hij, if_pos rfl]
      exact WE.mono (h1 hij) fun z H3 ⟨m, e3, r⟩ => ⟨j, m, e2, e3, _, rfl, r⟩
    · rw [decide_eq_false hij, if_neg Bool.false_ne_true]
      exact ⟨false, rfl, h2 hij⟩⟩) hm
/-- e is None -/
theorem t_isN (k : WE X a σ H fun x H1 => R (decide (x = .non)) H1) {j} : WT X (.Compare a [.Is] [.Constant .none j p] pos) σ H R :=
  t_cmp op_isN (WE.mono k fun x H1 r => e_non ⟨rfl, _, rfl, r⟩) (by first | exact nomark _ | rfl)
/-- comparisons of scalars -/
theorem t_eq (k : WE X a σ H fun x H1 => WE X b σ H1 fun y H2 => scal x y = true ∧ R (decide (x = y)) H2) (hm : behindInMarks .Eq b = false := by first | exact nomark _ | with_unfolding_all rfl) : WT X (.Compare a [.Eq] [b] pos) σ H R :=
  t_cmp op_eq (WE.mono k fun x H1 k1 => WE.mono k1 fun y H2 ⟨h, r⟩ => ⟨h, _, rfl, r⟩) hm
theorem t_ne (k : WE X a σ H fun x H1 => WE X b σ H1 fun y H2 => scal x y = true ∧ R (!decide (x = y)) H2) (hm : behindInMarks .NotEq b = false := by first | exact nomark _ | with_unfolding_all rfl) : WT X (.Compare a [.NotEq] [b] pos) σ H R :=
  t_cmp op_ne (WE.mono k fun x H1 k1 => WE.mono k1 fun y H2 ⟨h, r⟩ => ⟨h, _, rfl, r⟩) hm
theorem t_lt (k : WE X a σ H fun x H1 => WE X b σ H1 fun y H2 => ∃ i j, x = .int i ∧ y = .int j ∧ R (decide (i < j)) H2) (hm : behindInMarks .Lt b = false := by first | exact nomark _ | with_unfolding_all rfl) : WT X (.Compare a [.Lt] [b] pos) σ H R :=
  t_cmp op_lt (WE.mono k fun x H1 k1 => WE.mono k1 fun y H2 ⟨i, j, e1, e2, r⟩ => ⟨i, j, e1, e2, _, rfl, r⟩) hm
theorem t_gt (k : WE X a σ H fun x H1 => WE X b σ H1 fun y H2 => ∃ i j, x = .int i ∧ y = .int j ∧ R (decide (j < i)) H2) (hm : behindInMarks .Gt b = false := by first | exact nomark _ | with_unfolding_all rfl) : WT X (.Compare a [.Gt] [b] pos) σ H R :=
  t_cmp op_gt (WE.mono k fun x H1 k1 => WE.mono k1 fun y H2 ⟨i, j, e1, e2, r⟩ => ⟨i, j, e1, e2, _, rfl, r⟩) hm
theorem t_ge (k : WE X a σ H fun x H1 => WE X b σ H1 fun y H2 => ∃ i j, x = .int i ∧ y = .int j ∧ R (decide (j ≤ i)) H2) (hm : behindInMarks .GtE b = false := by first | exact nomark _ | with_unfolding_all rfl) : WT X (.Compare a [.GtE] [b] pos) σ H R :=
  t_cmp op_ge (WE.mono k fun x H1 k1 => WE.mono k1 fun y H2 ⟨i, j, e1, e2, r⟩ => ⟨i, j, e1, e2, _, rfl, r⟩) hm
/-- l != [] of a list that is data -/
theorem t_neD (hu : X.A.units + 64 < cLine) (k : WE X a σ H fun x H1 => WE X b σ H1 fun y H2 => ∃ d e, Dp X.K H2 x d ∧ Dp X.K H2 y e ∧ SeqAt.shaped d = true ∧ SeqAt.shaped e = true ∧ R (!PyData.eqv d e) H2) (hm : behindInMarks .NotEq b = false := by first | exact nomark _ | with_unfolding_all rfl) :
    WT X (.Compare a [.NotEq] [b] pos) σ H R := t_cmp (op_neD hu) (WE.mono k fun x H1 k1 => WE.mono k1 fun y H2 ⟨d, e, h1, h2, h3, h4, r⟩ => ⟨d, e, h1, h2, h3, h4, _, rfl, r⟩) hm
/-- o[i] = e, a list -/
theorem s_setL (k : WE X e σ H fun v H1 => WE X a σ H1 fun o H2 => WE X b σ H2 fun i H3 => ∃ l xs m j, o = .ref l ∧ i = .int m ∧ H3 l = some (.lst xs) ∧ ixN xs.length m = some j ∧ D.nx σ (upd H3 l (.lst (xs.set j v))))
    (ha : ∀ v, assign (.Subscript a b p) X.env v = (do
      let ov ← holding [v] (eval a X.env)
      let iv ← holding [v, ov] (eval b X.env)
      standAt p
      holding [v, ov, iv] (setItem ov iv v)
      release [v, ov, iv] []) := by intro _; rfl)
    (hs : swapsWithSole [.Subscript a b p] e pos.line X.env = pure false := by rfl) (hw : swappedStores [.Subscript a b p] e X.env = pure none := by rfl)
    (h1 : (assignEach [.Subscript a b p] X.env).map (·.2) = [assign (.Subscript a b p) X.env] := by rfl) : WS X (.Assign [.Subscript a b p] e pos) D σ H :=
  s_asg (pg_sub pE pE set_list ha) (WE.mono k fun v H1 k1 => WE.mono k1 fun o H2 k2 => WE.mono k2 fun i H3 ⟨l, xs, m, j, e1, e2, e3, e4, q⟩ => ⟨l, xs, m, j, e1, e2, e3, e4, q⟩) hs hw h1
end
end My

namespace My
open PySem PySem.Spec PyProof.Rows L2
/-! ### data made of tuples alone -/
mutual
inductive DT (H : Hp) : V → PyData → Prop
  | non : DT H .non .none
  | bl (b : Bool) : DT H (.bl b) (.bool b)
  | int (i : Int) : DT H (.int i) (.int i)
  | str (x : Str) : DT H (.str x) (.str x)
  | tup {a : Addr} {xs : List V} {ds : List PyData} : H a = some (.tup xs) → DTs H xs ds → DT H (.ref a) (.tuple ds)
inductive DTs (H : Hp) : List V → List PyData → Prop
  | nil : DTs H [] []
  | cons {v : V} {vs : List V} {d : PyData} {ds : List PyData} : DT H v d → DTs H vs ds → DTs H (v :: vs) (d :: ds)
end
/-- tuples stay -/
def Tup (H H' : Hp) : Prop := ∀ b xs, H b = some (.tup xs) → H' b = some (.tup xs)
theorem Tup.refl (H : Hp) : Tup H H := fun _ _ e => e
theorem Tup.trans {H H1 H2 : Hp} (a : Tup H H1) (b : Tup H1 H2) : Tup H H2 := fun c xs e => b c xs (a c xs e)
theorem Same.tups {H H' : Hp} (e : Same H H') : Tup H H' := fun b xs h => e b _ h
theorem Tup.new {H : Hp} {p : Addr} {o : HO} (h : H p = none) : Tup H (upd H p o) := Same.tups (same_new h)
theorem Tup.set {H : Hp} {p : Addr} {o : HO} {ys : List V} (h : H p = some (.lst ys)) : Tup H (upd H p o) := fun b xs e => by rw [upd_ne (ne_of e h (fun z => by cases z))]; exact e
theorem But.tups {p : Addr} {H H' : Hp} {ys : List V} (e : But p H H') (h : H p = some (.lst ys)) : Tup H H' := fun b xs z => e b _ (ne_of z h (fun z => by cases z)) z
mutual
theorem DT.mono {H H' : Hp} (e : Tup H H') : ∀ {d : PyData} {v : V}, DT H v d → DT H' v d
  | .none, _, h => by cases h; exact .non
  | .bool b, _, h => by cases h; exact .bl b
  | .int i, _, h => by cases h; exact .int i
  | .str x, _, h => by cases h; exact .str x
  | .list _, _, h => by cases h
  | .dict _, _, h => by cases h
  | .tuple ds, _, h => by cases h with | tup h1 h2 => exact .tup (e _ _ h1) (DTs.mono e h2)
theorem DTs.mono {H H' : Hp} (e : Tup H H') : ∀ {ds : List PyData} {vs : List V}, DTs H vs ds → DTs H' vs ds
  | [], _, h => by cases h; exact .nil
  | d :: ds, _, h => by cases h with | cons h1 h2 => exact .cons (DT.mono e h1) (DTs.mono e h2)
end
mutual
theorem DT.dp {K : PySem.W.Frag} {H : Hp} : ∀ {d : PyData} {v : V}, DT H v d → Dp K H v d
  | .none, _, h => by cases h; exact .non
  | .bool b, _, h => by cases h; exact .bl b
  | .int i, _, h => by cases h; exact .int i
  | .str x, _, h => by cases h; exact .str x
  | .list _, _, h => by cases h
  | .dict _, _, h => by cases h
  | .tuple ds, _, h => by cases h with | tup h1 h2 => exact .tup (.inl (.inl h1)) (DTs.dps h2)
theorem DTs.dps {K : PySem.W.Frag} {H : Hp} : ∀ {ds : List PyData} {vs : List V}, DTs H vs ds → DpAll K H vs ds
  | [], _, h => by cases h; exact .nil
  | d :: ds, _, h => by cases h with | cons h1 h2 => exact .cons (DT.dp h1) (DTs.dps h2)
end
theorem DTs.append {H : Hp} : ∀ {vs ws : List V} {ds es : List PyData}, DTs H vs ds → DTs H ws es → DTs H (vs ++ ws) (ds ++ es)
  | _, _, _, _, .nil, h => h
  | _, _, _, _, .cons h1 h2, h => .cons h1 (DTs.append h2 h)
theorem DTs.snoc {H : Hp} {vs : List V} {ds : List PyData} {v : V} {d : PyData} (h : DTs H vs ds) (k : DT H v d) : DTs H (vs ++ [v]) (ds ++ [d]) := h.append (.cons k .nil)
theorem DTs.length {H : Hp} : ∀ {vs : List V} {ds : List PyData}, DTs H vs ds → vs.length = ds.length
  | _, _, .nil => rfl
  | _, _, .cons _ h => congrArg (· + 1) (DTs.length h)
theorem DTs.get {H : Hp} : ∀ {vs : List V} {ds : List PyData} {i : Nat} {v : V}, DTs H vs ds → vs[i]? = some v → ∃ d, ds[i]? = some d ∧ DT H v d
  | _, _, _, _, .nil, e => by simp at e
  | _, _, 0, _, .cons h1 _, e => by simp at e; subst e; exact ⟨_, rfl, h1⟩
  | _, _, i + 1, _, .cons _ h2, e => by simpa using DTs.get h2 (by simpa using e)
theorem DTs.getD {H : Hp} : ∀ {vs : List V} {ds : List PyData} {i : Nat} {d : PyData}, DTs H vs ds → ds[i]? = some d → ∃ v, vs[i]? = some v ∧ DT H v d
  | _, _, _, _, .nil, e => by simp at e
  | _, _, 0, _, .cons h1 _, e => by simp at e; subst e; exact ⟨_, rfl, h1⟩
  | _, _, i + 1, _, .cons _ h2, e => by simpa using DTs.getD h2 (by simpa using e)
theorem DTs.strs {H : Hp} : ∀ zs : List Str, DTs H (zs.map V.str) (zs.map PyData.str)
  | [] => .nil
  | z :: zs => .cons (.str z) (DTs.strs zs)
theorem DTs.take {H : Hp} : ∀ {vs : List V} {ds : List PyData} (n : Nat), DTs H vs ds → DTs H (vs.take n) (ds.take n)
  | _, _, 0, _ => by simp only [List.take_zero]; exact .nil
  | _, _, _ + 1, .nil => .nil
  | _, _, n + 1, .cons h1 h2 => .cons h1 (DTs.take n h2)
/-- looking into a tuple -/
theorem DT.tupE {H : Hp} {v : V} {ds : List PyData} (h : DT H v (.tuple ds)) : ∃ a xs, v = .ref a ∧ H a = some (.tup xs) ∧ DTs H xs ds := by
  cases h with | tup h1 h2 => exact ⟨_, _, rfl, h1, h2⟩
theorem DT.strE {H : Hp} {v : V} {x : Str} (h : DT H v (.str x)) : v = .str x := by cases h; rfl
theorem DT.nonE {H : Hp} {v : V} (h : DT H v .none) : v = .non := by cases h; rfl
theorem DT.blE {H : Hp} {v : V} {b : Bool} (h : DT H v (.bool b)) : v = .bl b := by cases h; rfl
theorem DTs.e0 {H : Hp} {vs : List V} (h : DTs H vs []) : vs = [] := by cases h; rfl
theorem DTs.e1 {H : Hp} {vs : List V} {d : PyData} {ds : List PyData} (h : DTs H vs (d :: ds)) : ∃ v ws, vs = v :: ws ∧ DT H v d ∧ DTs H ws ds := by cases h with | cons h1 h2 => exact ⟨_, _, rfl, h1, h2⟩
theorem DT.tup2 {H : Hp} {v : V} {d e : PyData} (h : DT H v (.tuple [d, e])) : ∃ a x y, v = .ref a ∧ H a = some (.tup [x, y]) ∧ DT H x d ∧ DT H y e := by
  obtain ⟨a, xs, rfl, h1, h2⟩ := h.tupE
  obtain ⟨x, r, rfl, hx, h2⟩ := h2.e1
  obtain ⟨y, r, rfl, hy, h2⟩ := h2.e1
  cases h2.e0
  exact ⟨a, x, y, rfl, h1, hx, hy⟩
theorem DT.tup3 {H : Hp} {v : V} {d e f : PyData} (h : DT H v (.tuple [d, e, f])) : ∃ a x y z, v = .ref a ∧ H a = some (.tup [x, y, z]) ∧ DT H x d ∧ DT H y e ∧ DT H z f := by
  obtain ⟨a, xs, rfl, h1, h2⟩ := h.tupE
  obtain ⟨x, r, rfl, hx, h2⟩ := h2.e1
  obtain ⟨y, r, rfl, hy, h2⟩ := h2.e1
  obtain ⟨z, r, rfl, hz, h2⟩ := h2.e1
  cases h2.e0
  exact ⟨a, x, y, z, rfl, h1, hx, hy, hz⟩
theorem DT.tup4 {H : Hp} {v : V} {d e f g : PyData} (h : DT H v (.tuple [d, e, f, g])) : ∃ a x y z w, v = .ref a ∧ H a = some (.tup [x, y, z, w]) ∧ DT H x d ∧ DT H y e ∧ DT H z f ∧ DT H w g := by
  obtain ⟨a, xs, rfl, h1, h2⟩ := h.tupE
  obtain ⟨x, r, rfl, hx, h2⟩ := h2.e1
  obtain ⟨y, r, rfl, hy, h2⟩ := h2.e1
  obtain ⟨z, r, rfl, hz, h2⟩ := h2.e1
  obtain ⟨w, r, rfl, hw, h2⟩ := h2.e1
  cases h2.e0
  exact ⟨a, x, y, z, w, rfl, h1, hx, hy, hz, hw⟩
/-! ### sizes -/
mutual
def szD : PyData → Nat
  | .str x => 10 * x.length + 5
  | .tuple ds => szDs ds + 5
  | .none | .bool _ | .int _ | .list _ | .dict _ => 5
def szDs : List PyData → Nat
  | [] => 0
  | d :: ds => szD d + 2 + szDs ds
end
/-! no ints, lists, dicts; the texts have small signs -/
mutual
def okD : PyData → Bool
  | .str x => x.cps.toList.all fun c => decide (c < 128)
  | .tuple ds => okDs ds
  | .none | .bool _ => true
  | .int _ | .list _ | .dict _ => false
def okDs : List PyData → Bool
  | [] => true
  | d :: ds => okD d && okDs ds
end
mutual
theorem shown_le : ∀ d : PyData, okD d = true → d.shown.length ≤ szD d
  | .none, _ => by decide
  | .bool true, _ => by decide
  | .bool false, _ => by decide
  | .str x, h => by
    show (reprText x).length ≤ 10 * x.length + 5
    have := StrLaws.reprText_len x (fun c hc => Nat.lt_of_lt_of_le (of_decide_eq_true (List.all_eq_true.mp h c hc)) (by decide))
    omega
  | .tuple ds, h => by
    show (tupleText (PyData.shownAll ds)).length ≤ szDs ds + 5
    have h1 := tupleText_len_le (PyData.shownAll ds)
    have h2 := shownAll_le ds h
    omega
  | .int _, h => by cases h
  | .list _, h => by cases h
  | .dict _, h => by cases h
theorem shownAll_le : ∀ ds : List PyData, okDs ds = true → ((PyData.shownAll ds).map (·.length)).sum + 2 * (PyData.shownAll ds).length ≤ szDs ds
  | [], _ => by decide
  | d :: ds, h => by
    have h' : (okD d && okDs ds) = true := h
    simp only [Bool.and_eq_true] at h'
    have h1 := shown_le d h'.1
    have h2 := shownAll_le ds h'.2
    show (((PyData.shown d) :: PyData.shownAll ds).map (·.length)).sum + 2 * ((PyData.shown d) :: PyData.shownAll ds).length ≤ szD d + 2 + szDs ds
    rw [List.map_cons, List.sum_cons, List.length_cons]
    omega
end
mutual
theorem showable_ok : ∀ d : PyData, okD d = true → d.showable = true
  | .none, _ => rfl
  | .bool _, _ => rfl
  | .str _, _ => rfl
  | .tuple ds, h => showables_ok ds h
  | .int _, h => by cases h
  | .list _, h => by cases h
  | .dict _, h => by cases h
theorem showables_ok : ∀ ds : List PyData, okDs ds = true → PyData.showableAll ds = true
  | [], _ => rfl
  | d :: ds, h => by
    have h' : (okD d && okDs ds) = true := h
    simp only [Bool.and_eq_true] at h'
    show (PyData.showable d && PyData.showableAll ds) = true
    rw [showable_ok d h'.1, showables_ok ds h'.2]
    rfl
end
theorem okDs_of {ds : List PyData} (h : ∀ d ∈ ds, okD d = true) : okDs ds = true := by
  induction ds with
  | nil => rfl
  | cons d ds ih => show (okD d && okDs ds) = true; rw [h d List.mem_cons_self, ih fun x hx => h x (List.mem_cons_of_mem _ hx)]; rfl
theorem szDs_of {ds : List PyData} {n : Nat} (h : ∀ d ∈ ds, szD d ≤ n) : szDs ds ≤ ds.length * (n + 2) := by
  induction ds with
  | nil => exact Nat.zero_le _
  | cons d ds ih =>
    have h1 := h d List.mem_cons_self
    have h2 := ih fun x hx => h x (List.mem_cons_of_mem _ hx)
    show szD d + 2 + szDs ds ≤ (ds.length + 1) * (n + 2)
    rw [Nat.add_mul]
    omega
theorem depth_of {ds : List PyData} {n : Nat} (h : ∀ d ∈ ds, d.depth ≤ n) : PyData.depthAll ds ≤ n := by
  induction ds with
  | nil => exact Nat.zero_le _
  | cons d ds ih =>
    show max (PyData.depth d) (PyData.depthAll ds) ≤ n
    exact Nat.max_le.mpr ⟨h d List.mem_cons_self, ih fun x hx => h x (List.mem_cons_of_mem _ hx)⟩
theorem str_ext {x y : Str} (h : x.cps.toList = y.cps.toList) : x = y := by
  obtain ⟨a⟩ := x
  obtain ⟨b⟩ := y
  have e : a = b := Array.toList_inj.mp h
  rw [e]
theorem str_cat (x y : Str) : (x ++ y).cps.toList = x.cps.toList ++ y.cps.toList := Array.toList_append
theorem str_assoc (x y z : Str) : x ++ y ++ z = x ++ (y ++ z) := str_ext (by rw [str_cat, str_cat, str_cat, str_cat, List.append_assoc])
end My

namespace K10
open PySem PySem.Spec PyProof.Rows L2 My

/-! ### the pen -/
def top (i : Nat) : Stmt := PySem.Challenge.pw_boundonce_k10_texts_written.main.body.getD i (.Pass ⟨0, 0, 0, 0⟩)
abbrev sPen : Stmt := top 10
abbrev sNext : Stmt := top 11
abbrev sDraw : Stmt := top 12
/-- the pen at p: the list (at L) of the script's first ints, how many were drawn, what is left of the last -/
def Pen (H : Hp) (p L : Addr) (n : Nat) : Prop := ∃ (ns : List Int) (i r : Int), H p = some (.lst [.ref L, .int i, .int r]) ∧ H L = some (.lst (ns.map V.int)) ∧ ns.length ≤ 100 ∧ 0 ≤ i ∧ i ≤ n ∧ L ≠ p
theorem Pen.mono {H : Hp} {p L : Addr} {n m : Nat} (h : Pen H p L n) (l : n ≤ m) : Pen H p L m := by
  obtain ⟨ns, i, r, h1, h2, h3, h4, h5, h6⟩ := h
  exact ⟨ns, i, r, h1, h2, h3, h4, by omega, h6⟩
theorem Pen.at {H H' : Hp} {p L : Addr} {n : Nat} (h : Pen H p L n) (e1 : H' p = H p) (e2 : H' L = H L) : Pen H' p L n := by
  obtain ⟨ns, i, r, h1, h2, h3⟩ := h
  exact ⟨ns, i, r, e1.trans h1, e2.trans h2, h3⟩
theorem Pen.same {H H' : Hp} {p L : Addr} {n : Nat} (h : Pen H p L n) (e : Same H H') : Pen H' p L n := by
  obtain ⟨ns, i, r, h1, h2, h3⟩ := h
  exact ⟨ns, i, r, e _ _ h1, e _ _ h2, h3⟩
theorem Pen.p {H : Hp} {p L : Addr} {n : Nat} (h : Pen H p L n) : ∃ xs, H p = some (.lst xs) := by
  obtain ⟨ns, i, r, h1, _⟩ := h
  exact ⟨_, h1⟩
theorem Pen.l {H : Hp} {p L : Addr} {n : Nat} (h : Pen H p L n) : ∃ xs, H L = some (.lst xs) := by
  obtain ⟨ns, i, r, _, h1, _⟩ := h
  exact ⟨_, h1⟩
/-- an object that is written and is not the pen's -/
theorem Pen.upd {H : Hp} {p L q : Addr} {n : Nat} {o : HO} (h : Pen H p L n) (h1 : q ≠ p) (h2 : q ≠ L) : Pen (upd H q o) p L n := h.at (upd_ne h1.symm) (upd_ne h2.symm)
theorem Pen.newP {H : Hp} {p L q : Addr} {n : Nat} (h : Pen H p L n) (hq : H q = none) : q ≠ p := fun e => by obtain ⟨xs, h1⟩ := h.p; rw [e, h1] at hq; cases hq
theorem Pen.newL {H : Hp} {p L q : Addr} {n : Nat} (h : Pen H p L n) (hq : H q = none) : q ≠ L := fun e => by obtain ⟨xs, h1⟩ := h.l; rw [e, h1] at hq; cases hq
theorem Pen.tups {H H' : Hp} {p L : Addr} {n : Nat} (h : Pen H p L n) (b : But p H H') : Tup H H' := by obtain ⟨xs, h1⟩ := h.p; exact b.tups h1
theorem cut_len (ns : List Int) (k : Int) : ∃ ms : List Int, cutV (ns.map V.int) none (some k) = ms.map V.int ∧ ms.length ≤ ns.length := by
  refine ⟨(ns.drop (HT.sIx (ns.map V.int).length 0 none)).take (HT.sIx (ns.map V.int).length (ns.map V.int).length (some k) - HT.sIx (ns.map V.int).length 0 none), ?_, ?_⟩
  · unfold cutV
    rw [← List.map_drop, ← List.map_take]
  · rw [List.length_take, List.length_drop]
    omega
/-- what the top leaves of the built-in names -/
structure Bl (mg : Str → Option Value) : Prop where
  list : mg "list" = none
  len : mg "len" = none
  int : mg "int" = none
def spPen (K : PySem.W.Frag) : Sp := fun vs H Q _ => ∃ (a : Addr) (ns : List Int), vs = [.ref a] ∧ SqL K H a (ns.map V.int) ∧ ns.length ≤ 63 ∧ ∀ p L H', Same H H' → H p = none → H L = none → Pen H' p L 0 → Q (.ref p) H'
def spNext : Sp := fun vs H Q _ => ∃ (p L : Addr) (n : Nat), vs = [.ref p] ∧ Pen H p L n ∧ n < 2 ^ 40 ∧ ∀ (z : Int) H', But p H H' → Pen H' p L (n + 1) → Q (.int z) H'
def spDraw : Sp := fun vs H Q _ => ∃ (p L : Addr) (n : Nat) (u : Int), vs = [.ref p, .int u] ∧ Pen H p L n ∧ n < 2 ^ 40 ∧ 0 < u ∧ u < 1073741824 ∧ ∀ (d : Nat) H', But p H H' → Pen H' p L (n + 1) → (d : Int) < u → Q (.int d) H'
section
variable {P : Program} {w : World} {K : PySem.W.Frag} {mg : Str → Option Value} {base : Heap} {f fd : _}
theorem scPen : FnScope ["_law_script"] ["_law_script"] (defScope sPen) := ⟨rfl, rfl, rfl, by decide +kernel, rfl, by decide +kernel, by decide +kernel⟩
theorem ok_pen {f : Addr} {fd : FuncData} (F : Fun K "_law_pen" "_law_pen" sPen f fd) (G : Bl mg) : FnOk P w K mg base CX0 1 f fd ["_law_script"] (spPen K) := by
  refine Fun.okW F scPen (fun vs H Q E h => by obtain ⟨a, ns, rfl, _⟩ := h; rfl) (fun cdv B out s H vs Q E hr h => ?_)
  obtain ⟨a, ns, rfl, hS, hl, q⟩ := h
  obtain ⟨ms, em, lm⟩ := cut_len ns 60
  refine l_one (s_ret (e_lst (a_cons (e_callT call_list_of G.list PyProof.Rows.boot_list (a_cons (e_slL (e_var 0 rfl (e_int ⟨60, a, _, rfl, rfl, hS, fun c hc => ?_⟩))))))))
  refine a_nil ⟨c, _, rfl, .inl (.inl (.inl upd_same)), fun L hL => ?_⟩
  refine a_cons (e_int (a_cons (e_int (a_nil ⟨by show 3 ≤ sizeLine; decide, fun p hp => ?_⟩))))
  refine q p L _ ((same_new hc).trans ((same_new hL).trans (same_new hp))) ((same_new hc).free ((same_new hL).free hp)) ((same_new hc).free hL) ?_
  exact ⟨ms, 0, 0, upd_same, by rw [upd_ne (ne_of_none upd_same hp), upd_same, em], by omega, by decide, by decide, ne_of_none upd_same hp⟩
theorem scNext : FnScope ["_law_pen_here", "_law_index", "_law_cell_here", "_law_some_here", "_law_more", "_law_top"] ["_law_pen_here"] (defScope sNext) := ⟨rfl, rfl, rfl, by decide +kernel, rfl, by decide +kernel, by decide +kernel⟩
theorem at0 {α : Type} (a b c : α) : atI [a, b, c] 0 = some a := rfl
theorem at1 {α : Type} (a b c : α) : atI [a, b, c] 1 = some b := rfl
theorem at2 {α : Type} (a b c : α) : atI [a, b, c] 2 = some c := rfl
theorem dp_int {H : Hp} : ∀ ns : List Int, DpAll K H (ns.map V.int) (ns.map PyData.int)
  | [] => .nil
  | n :: ns => .cons (.int n) (dp_int ns)
theorem shaped_ints : ∀ ns : List Int, SeqAt.shaped (.list (ns.map PyData.int)) = true := fun ns => by
  have h1 : ∀ ms : List Int, PyData.canLayAll0 (ms.map PyData.int) = true := fun ms => by
    induction ms with
    | nil => rfl
    | cons m ms ih => show (true && PyData.canLayAll0 (ms.map PyData.int)) = true; rw [ih]; rfl
  have h2 : ∀ ms : List Int, PyData.depthAll (ms.map PyData.int) = 0 := fun ms => by
    induction ms with
    | nil => rfl
    | cons m ms ih => show max 0 (PyData.depthAll (ms.map PyData.int)) = 0; rw [ih]; rfl
  show (PyData.canLayAll0 (ns.map PyData.int) && decide (PyData.depthAll (ns.map PyData.int) + 1 ≤ 64)) = true
  rw [h1, h2]
  rfl
theorem ok_next {f : Addr} {fd : FuncData} (F : Fun K "_law_next" "_law_next" sNext f fd) (G : Bl mg) : FnOk P w K mg base CX0 1 f fd ["_law_pen_here"] spNext := by
  refine Fun.okW F scNext (fun vs H Q E h => by obtain ⟨a, b, n, rfl, _⟩ := h; rfl) (fun cdv B out s H vs Q E hr h => ?_)
  obtain ⟨p, L, n, rfl, ⟨ns, i, r, h1, h2, h3, h4, h5, h6⟩, hn, q⟩ := h
  -- index = pen[1]; pen[1] = index + 1
  refine l_cons (s_set 1 (e_ixL (e_var 0 rfl (e_int ⟨p, _, 1, _, rfl, rfl, .inl (.inl h1), at1 _ _ _, ?_⟩))) scNext.nd)
  refine l_cons (s_setL (e_addI (e_var 1 rfl (e_int ⟨i, 1, rfl, rfl, e_var 0 rfl (e_int ⟨p, _, 1, 1, rfl, rfl, h1, rfl, ?_⟩)⟩))))
  -- cell = index * 1087 + 73
  refine l_cons (s_set 2 (e_addI (e_mulI (e_var 1 rfl (e_int ⟨i, 1087, rfl, rfl, .inr (by decide), e_int ⟨_, 73, rfl, rfl, ?_⟩⟩)))) scNext.nd)
  have g1 : (upd H p (.lst [.ref L, .int (i + 1), .int r])) p = some (.lst [.ref L, .int (i + 1), .int r]) := upd_same
  have g2 : (upd H p (.lst [.ref L, .int (i + 1), .int r])) L = some (.lst (ns.map V.int)) := by rw [upd_ne h6]; exact h2
  have hb : But p H (upd H p (.lst [.ref L, .int (i + 1), .int r])) := But.upd
  show WL _ _ _ [some (.ref p), some (.int i), some (.int (i * 1087 + 73)), none, none, none] (upd H p (.lst [.ref L, .int (i + 1), .int r]))
  generalize i * 1087 + 73 = cell0
  generalize (upd H p (.lst [.ref L, .int (i + 1), .int r])) = H1 at g1 g2 hb
  have hi64 : -(2 ^ 64) < i ∧ i < 2 ^ 64 := ⟨by omega, by omega⟩
  -- if pen[0] != []: cell = pen[0][int(index) % len(pen[0])]
  refine l_cons (WS.cut (P := fun σ H2 => ∃ cell : Int, σ = [some (.ref p), some (.int i), some (.int cell), none, none, none] ∧ Same H1 H2) (s_if (t_neD hr.units (e_ixL (e_var 0 rfl (e_int ⟨p, _, 0, _, rfl, rfl, .inl (.inl g1), at0 _ _ _, e_lst (a_nil ⟨Nat.zero_le _, fun c hc => ?_⟩)⟩))))) ?_)
  · have s1 : Same H1 (upd H1 c (.lst [])) := same_new hc
    refine ⟨.list (ns.map PyData.int), .list [], .lst (.inl (.inl (s1 _ _ g2))) (dp_int ns), .lst (.inl (.inl upd_same)) .nil, shaped_ints ns, rfl, fun e => ?_, fun _ => l_nil ⟨cell0, rfl, s1⟩⟩
    have hpos : 0 < ns.length := by
      cases ns with
      | nil => cases e
      | cons x xs => exact Nat.succ_pos _
    refine l_one (s_set 2 (e_ixL (e_ixL (e_var 0 rfl (e_int ⟨p, _, 0, _, rfl, rfl, .inl (.inl (s1 _ _ g1)), at0 _ _ _, e_modI (e_intI G.int (e_var 1 rfl (.inl ⟨i, rfl, e_len G.len (e_ixL (e_var 0 rfl (e_int ⟨p, _, 0, _, rfl, rfl, .inl (.inl (s1 _ _ g1)), at0 _ _ _, L, _, rfl, .inl (.inl (.inl (s1 _ _ g2))), i, _, rfl, rfl, ?_, ?_⟩)))⟩)))⟩)))) scNext.nd)
    · rw [List.length_map]
      omega
    · have e1 : i % ((ns.map V.int).length : Int) = ((i % (ns.length : Int)).toNat : Nat) := by
        rw [List.length_map]
        have := Int.emod_nonneg i (show (ns.length : Int) ≠ 0 by omega)
        omega
      have e2 : (i % (ns.length : Int)).toNat < ns.length := by
        have := Int.emod_lt_of_pos i (show (0 : Int) < (ns.length : Int) by omega)
        have := Int.emod_nonneg i (show (ns.length : Int) ≠ 0 by omega)
        omega
      refine ⟨L, ns.map V.int, _, .int (ns[(i % (ns.length : Int)).toNat]), rfl, rfl, .inl (.inl (s1 _ _ g2)), ?_, ⟨_, rfl, s1⟩⟩
      rw [e1]
      exact atI_nat (by rw [List.getElem?_map, List.getElem?_eq_getElem e2]; rfl)
  rintro σ H2 ⟨cell, rfl, s2⟩
  have k1 := s2 _ _ g1
  have k2 := s2 _ _ g2
  have fin : ∀ (z : Int) H3, Same H2 H3 → Q (.int z) H3 := fun z H3 s3 => q z H3 (hb.trans (But.of (s2.trans s3))) ⟨ns, i + 1, r, s3 _ _ k1, s3 _ _ k2, h3, by omega, by omega, h6⟩
  -- if index < len(pen[0]) and cell >= 10 ** 18: return cell
  refine l_cons (WS.cut (P := fun σ H3 => σ = [some (.ref p), some (.int i), some (.int cell), none, none, none] ∧ H3 = H2) (s_if (t_w (w_and (t_lt (e_var 1 rfl (e_len G.len (e_ixL (e_var 0 rfl (e_int ⟨p, _, 0, _, rfl, rfl, .inl (.inl k1), at0 _ _ _, L, _, rfl, .inl (.inl (.inl k2)), i, _, rfl, rfl, fun _ => w_and1 (t_ge (e_var 2 rfl (e_op op_pow (e_int (e_int ⟨10, 18, rfl, rfl, ⟨by decide, by decide, by decide⟩, cell, _, rfl, rfl, ?_⟩))))), fun _ => ?_⟩))))))))) ?_)
  case refine_2 => exact ⟨fun e => Bool.noConfusion e, fun _ => l_nil ⟨rfl, rfl⟩⟩
  case refine_1 => exact ⟨fun _ => l_one (s_ret (e_var 2 rfl (fin _ _ (Same.refl _)))), fun _ => l_nil ⟨rfl, rfl⟩⟩
  rintro σ H3 ⟨rfl, rfl⟩
  refine l_cons (s_set 3 (e_modI (e_intI G.int (e_addI (e_addI (e_modI (e_intI G.int (e_var 2 rfl (.inl ⟨cell, rfl, e_int ⟨_, 2147483587, rfl, rfl, by decide, e_mulI (e_var 1 rfl (e_int ⟨i, 30133, rfl, rfl, .inr (by decide), _, _, rfl, rfl, e_int ⟨_, 101, rfl, rfl, .inl ⟨_, rfl, e_int ⟨_, 2147483587, rfl, rfl, by decide, ?_⟩⟩⟩⟩))⟩⟩)))))))) scNext.nd)
  generalize hx : (cell % 2147483587 + i * 30133 + 101) % 2147483587 = x
  have x0 : 0 ≤ x := by rw [← hx]; exact Int.emod_nonneg _ (by decide)
  have x1 : x < 2147483587 := by rw [← hx]; exact Int.emod_lt_of_pos _ (by decide)
  refine l_cons (s_set 4 (e_modI (e_intI G.int (e_addI (e_addI (e_mulI (e_var 3 rfl (e_var 3 rfl ⟨x, x, rfl, rfl, .inl ⟨by omega, by omega⟩, e_mulI (e_var 1 rfl (e_int ⟨i, 70111, rfl, rfl, .inr (by decide), _, _, rfl, rfl, e_int ⟨_, 73, rfl, rfl, .inl ⟨_, rfl, e_int ⟨_, 2147483563, rfl, rfl, by decide, ?_⟩⟩⟩⟩))⟩))))))) scNext.nd)
  generalize hy : (x * x + i * 70111 + 73) % 2147483563 = y
  have y0 : 0 ≤ y := by rw [← hy]; exact Int.emod_nonneg _ (by decide)
  have y1 : y < 2147483563 := by rw [← hy]; exact Int.emod_lt_of_pos _ (by decide)
  refine l_cons (s_set 5 (e_modI (e_intI G.int (e_addI (e_addI (e_mulI (e_var 4 rfl (e_var 4 rfl ⟨y, y, rfl, rfl, .inl ⟨by omega, by omega⟩, e_var 3 rfl ⟨_, x, rfl, rfl, e_mulI (e_mulI (e_var 1 rfl (e_var 1 rfl ⟨i, i, rfl, rfl, .inl hi64, e_int ⟨_, 47, rfl, rfl, .inr (by decide), _, _, rfl, rfl, .inl ⟨_, rfl, e_int ⟨_, 2147483549, rfl, rfl, by decide, ?_⟩⟩⟩⟩)))⟩⟩))))))) scNext.nd)
  generalize hz : (y * y + x + i * i * 47) % 2147483549 = z
  refine l_one (s_ret (e_addI (e_mulI (e_addI (e_mulI (e_var 5 rfl (e_int ⟨z, 2147483587, rfl, rfl, .inr (by decide), e_var 4 rfl ⟨_, y, rfl, rfl, e_int ⟨_, 2147483563, rfl, rfl, .inr (by decide), e_var 3 rfl ⟨_, x, rfl, rfl, ?_⟩⟩⟩⟩)))))))
  exact fin _ _ (Same.refl _)
theorem scDraw : FnScope ["_law_pen_here", "_law_under", "_law_digit"] ["_law_pen_here", "_law_under"] (defScope sDraw) := ⟨rfl, rfl, rfl, by decide +kernel, rfl, by decide +kernel, by decide +kernel⟩
theorem ok_draw {f : Addr} {fd : FuncData} (F : Fun K "_law_draw" "_law_draw" sDraw f fd) (G : Bl mg) (N : CalN P w K mg base 1 "_law_next" spNext) : FnOk P w K mg base CX0 2 f fd ["_law_pen_here", "_law_under"] spDraw := by
  refine Fun.okW F scDraw (fun vs H Q E h => by obtain ⟨a, b, n, u, rfl, _⟩ := h; rfl) (fun cdv B out s H vs Q E hr h => ?_)
  obtain ⟨p, L, n, u, rfl, Pn, hn, u0, u1, q⟩ := h
  obtain ⟨ns, i, r, h1, h2, h3, h4, h5, h6⟩ := id Pn
  -- if pen[2] < under: pen[2] = next(pen)
  refine l_cons (WS.cut (P := fun σ H2 => σ = [some (.ref p), some (.int u), none] ∧ Pen H2 p L (n + 1) ∧ But p H H2) (s_if (t_lt (e_ixL (e_var 0 rfl (e_int ⟨p, _, 2, _, rfl, rfl, .inl (.inl h1), at2 _ _ _, e_var 1 rfl ⟨r, u, rfl, rfl, fun _ => ?_, fun _ => l_nil ⟨rfl, Pn.mono (Nat.le_succ _), But.refl _ _⟩⟩⟩))))) ?_)
  · refine l_one (s_setL (e_c N hr (by decide) (a_cons (e_var 0 rfl (a_nil ⟨p, L, n, rfl, Pn, hn, fun z H2 b2 P2 => ?_⟩)))))
    obtain ⟨ns', i', r', g1, g2, g3, g4, g5, g6⟩ := P2
    refine e_var 0 rfl (e_int ⟨p, _, 2, 2, rfl, rfl, g1, rfl, rfl, ⟨ns', i', z, upd_same, by rw [upd_ne g6]; exact g2, g3, g4, g5, g6⟩, b2.trans But.upd⟩)
  rintro σ H2 ⟨rfl, P2, b2⟩
  obtain ⟨ns', i', r', g1, g2, g3, g4, g5, g6⟩ := P2
  refine l_cons (s_set 2 (e_modI (e_intI G.int (e_ixL (e_var 0 rfl (e_int ⟨p, _, 2, _, rfl, rfl, .inl (.inl g1), at2 _ _ _, .inl ⟨r', rfl, e_var 1 rfl ⟨r', u, rfl, rfl, u0, ?_⟩⟩⟩))))) scDraw.nd)
  refine l_cons (s_setL (e_divI (e_ixL (e_var 0 rfl (e_int ⟨p, _, 2, _, rfl, rfl, .inl (.inl g1), at2 _ _ _, e_var 1 rfl ⟨r', u, rfl, rfl, ⟨u0, u1⟩, e_var 0 rfl (e_int ⟨p, _, 2, 2, rfl, rfl, g1, rfl, ?_⟩)⟩⟩)))))
  have e0 := Int.emod_nonneg r' (show u ≠ 0 by omega)
  have e1 := Int.emod_lt_of_pos r' u0
  refine l_one (s_ret (e_var 2 rfl ?_))
  have en : r' % u = ((r' % u).toNat : Nat) := by omega
  show Q (.int (r' % u)) _
  rw [en]
  exact q _ _ (b2.trans But.upd) ⟨ns', i', r' / u, upd_same, by rw [upd_ne g6]; exact g2, g3, g4, g5, g6⟩ (by omega)
end
end K10

namespace K10
open PySem PySem.Spec PyProof.Rows L2 My
/-! ### the texts, as functions of the data -/
def sv : PyData → Str
  | .str z => z
  | _ => Str.empty
def dotT (a b : PyData) : Str := match a with
  | .str l => l ++ ("." : Str) ++ sv b
  | _ => sv b
def quoT (z : Str) : Str := ("'" : Str) ++ z ++ ("'" : Str)
def termT : Nat → PyData → Str
  | _, .str z => quoT z
  | _, .tuple [a, b] => dotT a b
  | k + 1, .tuple [_, s, n, .tuple ts] => dotT s n ++ ("(" : Str) ++ Txt.join (", " : Str) (ts.map (termT k)) ++ (")" : Str)
  | _, _ => Str.empty
def cellT : PyData → Str
  | .tuple [a, b] => dotT a b
  | _ => Str.empty
/-! ### the forms -/
def nm (z : Str) : Prop := z.length ≤ 9 ∧ (z.cps.toList.all fun c => decide (c < 128)) = true
def okN (d : PyData) : Prop := ∃ z, d = .str z ∧ nm z
def okO (d : PyData) : Prop := d = .none ∨ okN d
def okC (d : PyData) : Prop := ∃ a b, d = .tuple [a, b] ∧ okO a ∧ okN b
def okK (F : PyData → Prop) (d : PyData) : Prop := ∃ s n ts, d = .tuple [.str "call", s, n, .tuple ts] ∧ okO s ∧ okN n ∧ 1 ≤ ts.length ∧ ts.length ≤ 2 ∧ ∀ t ∈ ts, F t
def okTm : Nat → PyData → Prop
  | 0, d => okN d ∨ okC d
  | k + 1, d => okN d ∨ okC d ∨ okK (okTm k) d
theorem okTm.cases {k : Nat} {d : PyData} (h : okTm k d) : okN d ∨ okC d ∨ ∃ j, k = j + 1 ∧ okK (okTm j) d := by
  cases k with
  | zero => rcases h with h | h; exact .inl h; exact .inr (.inl h)
  | succ j => rcases h with h | h | h; exact .inl h; exact .inr (.inl h); exact .inr (.inr ⟨j, rfl, h⟩)
def lenB : Nat → Nat
  | 0 => 19
  | k + 1 => 2 * lenB k + 40
theorem lenB_le : ∀ k, k ≤ 6 → lenB k ≤ 4000 ∧ 19 ≤ lenB k := by decide
theorem lenB_19 : ∀ k, 19 ≤ lenB k
  | 0 => Nat.le_refl _
  | k + 1 => by have := lenB_19 k; show 19 ≤ 2 * lenB k + 40; omega
theorem cat_len (x y : Str) : (x ++ y).length = x.length + y.length := strLen_append x y
theorem dot_len {a b : PyData} (ha : okO a) (hb : okN b) : (dotT a b).length ≤ 19 := by
  obtain ⟨z, rfl, hz, _⟩ := hb
  rcases ha with rfl | ⟨y, rfl, hy, _⟩
  · show z.length ≤ 19
    omega
  · show (y ++ ("." : Str) ++ z).length ≤ 19
    rw [cat_len, cat_len]
    have : ("." : Str).length = 1 := by decide
    omega
theorem join_len (sep : Str) (ys : List Str) : (Txt.join sep ys).length ≤ (ys.map (·.length)).sum + ys.length * sep.length := by
  have h := size_glued sep ys
  unfold Txt.join
  rw [h]
  have : (ys.length - 1) * sep.length ≤ ys.length * sep.length := Nat.mul_le_mul_right _ (Nat.sub_le _ _)
  omega
theorem sum_len {α : Type} {f : α → Str} {B : Nat} : ∀ {l : List α}, (∀ x ∈ l, (f x).length ≤ B) → ((l.map f).map (·.length)).sum ≤ l.length * B
  | [], _ => Nat.zero_le _
  | x :: l, h => by
    have h1 := h x List.mem_cons_self
    have h2 := sum_len (l := l) fun y hy => h y (List.mem_cons_of_mem _ hy)
    rw [List.map_cons, List.map_cons, List.sum_cons, List.length_cons, Nat.add_mul]
    omega
theorem term_len : ∀ (k : Nat) {d : PyData}, okTm k d → (termT k d).length ≤ lenB k
  | k, d, h => by
    have hk := lenB_19 k
    rcases h.cases with ⟨z, rfl, hz, _⟩ | ⟨a, b, rfl, ha, hb⟩ | ⟨j, rfl, s, n, ts, rfl, hs, hn, h1, h2, hts⟩
    · have e : termT k (.str z) = quoT z := by cases k <;> rfl
      rw [e]
      show (("'" : Str) ++ z ++ ("'" : Str)).length ≤ _
      rw [cat_len, cat_len]
      have : ("'" : Str).length = 1 := by decide
      omega
    · have e : termT k (.tuple [a, b]) = dotT a b := by cases k <;> rfl
      rw [e]
      exact Nat.le_trans (dot_len ha hb) hk
    · show (dotT s n ++ ("(" : Str) ++ Txt.join (", " : Str) (ts.map (termT j)) ++ (")" : Str)).length ≤ 2 * lenB j + 40
      rw [cat_len, cat_len, cat_len]
      have q1 := dot_len hs hn
      have q2 := join_len (", " : Str) (ts.map (termT j))
      have q3 := sum_len (f := termT j) (B := lenB j) (l := ts) fun t ht => term_len j (hts t ht)
      have q4 : ts.length * lenB j ≤ 2 * lenB j := Nat.mul_le_mul_right _ h2
      have e1 : (", " : Str).length = 2 := by decide
      have e2 : ("(" : Str).length = 1 := by decide
      have e3 : (")" : Str).length = 1 := by decide
      rw [List.length_map, e1] at q2
      omega
/-! ### the program's defs -/
abbrev sWrite : Stmt := top 1
abbrev sDotted : Stmt := top 2
abbrev sQuoted : Stmt := top 3
abbrev sValues : Stmt := top 4
abbrev sTerm : Stmt := top 5
abbrev sTold : Stmt := top 6
abbrev sSource : Stmt := top 7
abbrev sCond : Stmt := top 8
structure Bm (mg : Str → Option Value) : Prop extends Bl mg where
  isi : mg "isinstance" = none
  str : mg "str" = none
/-- a def of data that gives a text -/
def spT (ok : PyData → Prop) (f : PyData → Str) : Sp := fun vs H Q _ => ∃ v d, vs = [v] ∧ DT H v d ∧ ok d ∧ ∀ H', Same H H' → Q (.str (f d)) H'
def spDot : Sp := fun vs H Q _ => ∃ v u d e, vs = [v, u] ∧ DT H v d ∧ DT H u e ∧ okO d ∧ okN e ∧ ∀ H', Same H H' → Q (.str (dotT d e)) H'
def spQuo : Sp := fun vs H Q _ => ∃ z, vs = [.str z] ∧ nm z ∧ ∀ H', Same H H' → Q (.str (quoT z)) H'
theorem line_ge {n : Nat} (h : n ≤ 100000) : n ≤ sizeLine := Nat.le_trans h (by decide)
theorem ty_str {K : PySem.W.Frag} {H : Hp} {z : Str} : TyX K H (.str z) (.type "str") := .base (.str z)
theorem ty_tup {K : PySem.W.Frag} {H : Hp} {a : Addr} {xs : List V} (h : H a = some (.tup xs)) : TyX K H (.ref a) (.type "tuple") := .base (.tup h)
theorem ss : kitB "str" "str" = some true := by decide +kernel
theorem ts : kitB "tuple" "str" = some false := by decide +kernel
theorem tt : kitB "tuple" "tuple" = some true := by decide +kernel
theorem st : kitB "str" "tuple" = some false := by decide +kernel
section
variable {P : Program} {w : World} {K : PySem.W.Frag} {mg : Str → Option Value} {base : Heap}
theorem scDotted : FnScope ["first", "name"] ["first", "name"] (defScope sDotted) := ⟨rfl, rfl, rfl, by decide +kernel, rfl, by decide +kernel, by decide +kernel⟩
theorem ok_dotted {f : Addr} {fd : FuncData} (F : Fun K "dotted" "dotted" sDotted f fd) : FnOk P w K mg base CX0 1 f fd ["first", "name"] spDot := by
  refine Fun.okW F scDotted (fun vs H Q E h => by obtain ⟨v, u, d, e, rfl, _⟩ := h; rfl) (fun cdv B out s H vs Q E hr h => ?_)
  obtain ⟨v, u, d, e, rfl, hv, hu, hd, ⟨z, rfl, hz, _⟩, q⟩ := h
  have eu := hu.strE
  subst eu
  refine l_cons (s_if (t_isN (e_var 0 rfl ?_)))
  rcases hd with rfl | ⟨y, rfl, hy, _⟩
  · have ev := hv.nonE
    subst ev
    exact ⟨fun _ => l_one (s_ret (e_var 1 rfl (q _ (Same.refl _)))), fun e => by simp at e⟩
  · have ev := hv.strE
    subst ev
    refine ⟨fun e => by simp at e, fun _ => l_nil ?_⟩
    refine l_one (s_ret (e_addS (e_addS (e_var 0 rfl (e_str ⟨y, _, rfl, rfl, ?_, e_var 1 rfl ⟨_, z, rfl, rfl, ?_, q _ (Same.refl _)⟩⟩)))))
    · have : ("." : Str).length = 1 := by decide
      exact line_ge (by omega)
    · have : ("." : Str).length = 1 := by decide
      rw [cat_len]
      exact line_ge (by omega)
theorem scQuoted : FnScope ["word"] ["word"] (defScope sQuoted) := ⟨rfl, rfl, rfl, by decide +kernel, rfl, by decide +kernel, by decide +kernel⟩
theorem ok_quoted {f : Addr} {fd : FuncData} (F : Fun K "quoted" "quoted" sQuoted f fd) : FnOk P w K mg base CX0 1 f fd ["word"] spQuo := by
  refine Fun.okW F scQuoted (fun vs H Q E h => by obtain ⟨v, rfl, _⟩ := h; rfl) (fun cdv B out s H vs Q E hr h => ?_)
  obtain ⟨z, rfl, ⟨hz, _⟩, q⟩ := h
  have : ("'" : Str).length = 1 := by decide
  refine l_one (s_ret (e_addS (e_addS (e_str (e_var 0 rfl ⟨_, z, rfl, rfl, line_ge (by omega), e_str ⟨_, _, rfl, rfl, ?_, q _ (Same.refl _)⟩⟩)))))
  rw [cat_len]
  exact line_ge (by omega)
end
end K10

namespace K10
open PySem PySem.Spec PyProof.Rows L2 My
/-- what one element of a join gives -/
theorem same_at {H1 H2 : Hp} {D : Addr} {o : HO} (s : Same H1 H2) (h : H1 D = some o) : H2 D = some o := s _ _ h
section
variable {X : Cx} {σ : L2.St} {H : Hp} {Q : VK} {pos pos2 apos : Pos} {elt : Expr} {scope : Scope} {x : Str} {iter o : Expr}
/-- sep.join([f(x) for x in a tuple of data]), f giving texts and leaving all as it was -/
theorem e_joinT {pt : Pos} (j : Nat) (f : PyData → Str) (ok : PyData → Prop) (B : Nat) (hN : X.N.Nodup) (okb : BlkOk X.N X.env.scope scope [(x, j)])
    (h : WE X o σ H fun sv H0 => ∃ sep : Str, sv = .str sep ∧ sep.length ≤ 10 ∧ WE X iter σ H0 fun v H1 => ∃ ds, DT H1 v (.tuple ds) ∧ ds.length ≤ 100 ∧ (∀ d ∈ ds, ok d ∧ (f d).length ≤ B) ∧ B ≤ 100000 ∧
      (∀ d u H2, ok d → DT H2 u d → WB X scope elt ((wipe σ [j]).set j (some u)) H2 fun y H3 => y = .str (f d) ∧ Same H2 H3) ∧ ∀ H2, Same H1 H2 → Q (.str (Txt.join sep (ds.map f))) H2)
    (hg : ∀ (s : Shared) (H : Hp) (C : Addr) (cl : List (Str × Addr)) (fp : List Addr), PG (X.blk s H scope (compEnvC scope cl C X.env) fp) (.Name x pt) (gName j))
    (hc : X.calm = true := by rfl) (hs : ∀ z, foldedSetIterable iter X.env z = pure z := by intro _; rfl)
    (hst : starEach [.ListComp elt [⟨.Name x pt, iter, [], 0⟩] scope pos2] X.env = [(false, eval (.ListComp elt [⟨.Name x pt, iter, [], 0⟩] scope pos2) X.env)] := by rfl)
    (hbase : attributeBase o "join" X.env (eval o X.env) = eval o X.env := by rfl) (hline : (apos.endLine == pos.line) = true := by rfl) :
    WE X (.Call (.Attribute o "join" apos) [.ListComp elt [⟨.Name x pt, iter, [], 0⟩] scope pos2] [] pos) σ H Q := by
  refine toE (pe_join pE pE hst hbase hline) (WE.mono h fun sv H0 ⟨sep, e, hsep, h⟩ => ⟨⟨sep, e⟩, ?_⟩)
  refine e_lcT j hN okb (WE.mono h fun v H1 ⟨ds, hd, hl, hok, hB, hel, q⟩ => ?_) hg hc hs
  obtain ⟨a, xs, rfl, ha, hds⟩ := hd.tupE
  have hlx := hds.length
  refine ⟨a, xs, rfl, .inl (.inl ha), fun D nD => ⟨fun i H' => Same H1 H' ∧ H' D = some (.lst (((ds.map f).take i).map V.str)), ⟨same_new nD, by rw [upd_same]; rfl⟩, fun i H' hi p => .inl (.inl (p.1 _ _ ha)), fun i y H' hi p => ?_, fun H' p => ?_⟩⟩
  · obtain ⟨d, hdi, hyd⟩ := hds.get hi
    obtain ⟨okd, _⟩ := hok d (List.mem_of_getElem? hdi)
    have hlt : i < ds.length := (List.getElem?_eq_some_iff.mp hdi).1
    refine fun s0 H00 C cl fp => WE.mono (hel d y H' okd (hyd.mono (My.Same.tups p.1)) s0 H00 C cl fp) fun z H4 ⟨ez, s4⟩ => ?_
    subst ez
    refine ⟨_, s4 _ _ p.2, ?_, same_mut (p.1.trans s4) nD, ?_⟩
    · rw [List.length_map, List.length_take, List.length_map]
      exact Nat.lt_of_lt_of_le (show _ < 101 by omega) (by decide)
    · rw [upd_same, List.take_add_one, List.getElem?_map, hdi, List.map_append]
      rfl
  · rw [hlx] at p
    have et : (ds.map f).take ds.length = ds.map f := by
      rw [← List.length_map (f := f) (as := ds)]
      exact List.take_length
    rw [et] at p
    refine ⟨sep, D, ds.map f, e, rfl, .inl (.inl (.inl p.2)), ?_, q H' p.1⟩
    have q1 := sum_len (f := f) (B := B) (l := ds) fun d hd => (hok d hd).2
    have q2 : ds.length * B ≤ 100 * 100000 := Nat.mul_le_mul hl hB
    have q3 : (ds.map f).length * sep.length ≤ 100 * 10 := Nat.mul_le_mul (by rw [List.length_map]; exact hl) hsep
    omega
end
section
variable {P : Program} {w : World} {K : PySem.W.Frag} {mg : Str → Option Value} {base : Heap}
theorem scTerm : FnScope ["term", "inner"] ["term"] (defScope sTerm) := ⟨rfl, rfl, rfl, by decide +kernel, rfl, by decide +kernel, by decide +kernel⟩
theorem at_1 {α : Type} (a b c d : α) : atI [a, b, c, d] 1 = some b := rfl
theorem at_2 {α : Type} (a b c d : α) : atI [a, b, c, d] 2 = some c := rfl
theorem at_3 {α : Type} (a b c d : α) : atI [a, b, c, d] 3 = some d := rfl
theorem at_0 {α : Type} (a b c d : α) : atI [a, b, c, d] 0 = some a := rfl
theorem b0 {α : Type} (a b : α) : atI [a, b] 0 = some a := rfl
theorem b1 {α : Type} (a b : α) : atI [a, b] 1 = some b := rfl
theorem ok_term {f : Addr} {fd : FuncData} (F : Fun K "text_of_term" "text_of_term" sTerm f fd) (bd : Binds K fd ["term"] []) (hm : mg "text_of_term" = some (.ref f)) (G : Bm mg) (cD : CalN P w K mg base 1 "dotted" spDot) (cQ : CalN P w K mg base 1 "quoted" spQuo) :
    ∀ k, k ≤ 6 → FnOk P w K mg base CX0 (k + 2) f fd ["term"] (spT (okTm k) (termT k)) := by
  intro k
  induction k with
  | zero =>
    intro _
    refine Fun.okW F scTerm (fun vs H Q E h => by obtain ⟨v, d, rfl, _⟩ := h; rfl) (fun cdv B out s H vs Q E hr h => ?_)
    obtain ⟨v, d, rfl, hv, hd, q⟩ := h
    rcases hd with ⟨z, rfl, hz⟩ | ⟨a, b, rfl, ha, hb⟩
    · have ev := hv.strE
      subst ev
      refine l_cons (s_if (t_val (e_isi G.isi G.str PyProof.Rows.boot_str (e_var 0 rfl ⟨"str", true, ty_str, ss, true, rfl, fun _ => ?_, fun e => Bool.noConfusion e⟩))))
      exact l_one (s_ret (e_c cQ hr (by decide) (a_cons (e_var 0 rfl (a_nil ⟨z, rfl, hz, fun H' s' => q H' s'⟩)))))
    · obtain ⟨t, x, y, rfl, ht, hx, hy⟩ := hv.tup2
      refine l_cons (s_if (t_val (e_isi G.isi G.str PyProof.Rows.boot_str (e_var 0 rfl ⟨"tuple", false, ty_tup ht, ts, false, rfl, fun e => Bool.noConfusion e, fun _ => l_nil ?_⟩))))
      refine l_cons (s_if (t_eq (e_len G.len (e_var 0 rfl ⟨t, _, rfl, .inr (.inl (.inl ht)), e_int ⟨rfl, fun _ => ?_, fun e => by simp at e⟩⟩))))
      refine l_one (s_ret (e_c cD hr (by decide) (a_cons (e_ixT (e_var 0 rfl (e_int ⟨t, _, 0, _, rfl, rfl, .inl (.inl ht), b0 _ _, a_cons (e_ixT (e_var 0 rfl (e_int ⟨t, _, 1, _, rfl, rfl, .inl (.inl ht), b1 _ _, a_nil ⟨x, y, a, b, rfl, hx, hy, ha, hb, q⟩⟩)))⟩))))))
  | succ k ih =>
    intro hk
    have cT : CalN P w K mg base (k + 2) "text_of_term" (spT (okTm k) (termT k)) := ⟨f, fd, _, ih (by omega), hm, F.kp, bd⟩
    refine Fun.okW F scTerm (fun vs H Q E h => by obtain ⟨v, d, rfl, _⟩ := h; rfl) (fun cdv B out s H vs Q E hr h => ?_)
    obtain ⟨v, d, rfl, hv, hd, q⟩ := h
    rcases hd with ⟨z, rfl, hz⟩ | ⟨a, b, rfl, ha, hb⟩ | ⟨sc, n, ts', rfl, hs, hn, h1, h2, hts⟩
    · have ev := hv.strE
      subst ev
      refine l_cons (s_if (t_val (e_isi G.isi G.str PyProof.Rows.boot_str (e_var 0 rfl ⟨"str", true, ty_str, ss, true, rfl, fun _ => ?_, fun e => Bool.noConfusion e⟩))))
      exact l_one (s_ret (e_c cQ hr (by omega) (a_cons (e_var 0 rfl (a_nil ⟨z, rfl, hz, fun H' s' => q H' s'⟩)))))
    · obtain ⟨t, x, y, rfl, ht, hx, hy⟩ := hv.tup2
      refine l_cons (s_if (t_val (e_isi G.isi G.str PyProof.Rows.boot_str (e_var 0 rfl ⟨"tuple", false, ty_tup ht, ts, false, rfl, fun e => Bool.noConfusion e, fun _ => l_nil ?_⟩))))
      refine l_cons (s_if (t_eq (e_len G.len (e_var 0 rfl ⟨t, _, rfl, .inr (.inl (.inl ht)), e_int ⟨rfl, fun _ => ?_, fun e => by simp at e⟩⟩))))
      refine l_one (s_ret (e_c cD hr (by omega) (a_cons (e_ixT (e_var 0 rfl (e_int ⟨t, _, 0, _, rfl, rfl, .inl (.inl ht), b0 _ _, a_cons (e_ixT (e_var 0 rfl (e_int ⟨t, _, 1, _, rfl, rfl, .inl (.inl ht), b1 _ _, a_nil ⟨x, y, a, b, rfl, hx, hy, ha, hb, q⟩⟩)))⟩))))))
    · obtain ⟨t, x, y, z, u, rfl, ht, hx, hy, hz, hu⟩ := hv.tup4
      refine l_cons (s_if (t_val (e_isi G.isi G.str PyProof.Rows.boot_str (e_var 0 rfl ⟨"tuple", false, ty_tup ht, ts, false, rfl, fun e => Bool.noConfusion e, fun _ => l_nil ?_⟩))))
      refine l_cons (s_if (t_eq (e_len G.len (e_var 0 rfl ⟨t, _, rfl, .inr (.inl (.inl ht)), e_int ⟨rfl, fun e => by simp at e, fun _ => l_nil ?_⟩⟩))))
      refine l_one (s_ret (e_addS (e_addS (e_addS (e_c cD hr (by omega) (a_cons (e_ixT (e_var 0 rfl (e_int ⟨t, _, 1, _, rfl, rfl, .inl (.inl ht), at_1 _ _ _ _, a_cons (e_ixT (e_var 0 rfl (e_int ⟨t, _, 2, _, rfl, rfl, .inl (.inl ht), at_2 _ _ _ _, a_nil ⟨y, z, sc, n, rfl, hy, hz, hs, hn, fun H1 s1 => ?_⟩⟩)))⟩)))))))))
      have q1 := dot_len hs hn
      have ht1 := s1 _ _ ht
      have e1 : ("(" : Str).length = 1 := by decide
      have e2 : (")" : Str).length = 1 := by decide
      refine e_str ⟨_, _, rfl, rfl, line_ge (by omega), ?_⟩
      have lk := lenB_le k (by omega)
      refine e_joinT 1 (termT k) (okTm k) (lenB k) scTerm.nd (blkOk_by (N := ["term", "inner"]) (sc := defScope sTerm) (by decide +kernel)) (e_str ⟨_, rfl, by decide, e_ixT (e_var 0 rfl (e_int ⟨t, _, 3, _, rfl, rfl, .inl (.inl ht1), at_3 _ _ _ _, ts', hu.mono (My.Same.tups s1), by omega, fun d hd => ⟨hts d hd, term_len k (hts d hd)⟩, by omega, ?_, fun H2 s2 => ?_⟩))⟩) (fun _ _ _ _ _ => pg_name (i := 1) scTerm.nd rfl (Or.inl rfl))
      · intro d u' H2 okd hud s0 H0 C cl fp
        exact e_c cT hr (Nat.le_refl _) (a_cons (e_var 1 rfl (a_nil ⟨u', d, rfl, hud, okd, fun H3 s3 => ⟨rfl, s3⟩⟩)))
      · have q2 := join_len (", " : Str) (ts'.map (termT k))
        have q3 := sum_len (f := termT k) (B := lenB k) (l := ts') fun t ht => term_len k (hts t ht)
        have q4 : ts'.length * lenB k ≤ 2 * lenB k := Nat.mul_le_mul_right _ h2
        have e3 : (", " : Str).length = 2 := by decide
        rw [List.length_map, e3] at q2
        refine ⟨_, _, rfl, rfl, ?_, e_str ⟨_, _, rfl, rfl, ?_, q _ (s1.trans s2)⟩⟩
        · rw [cat_len]
          exact line_ge (by omega)
        · rw [cat_len, cat_len]
          exact line_ge (by omega)
end
end K10

namespace K10
open PySem PySem.Spec PyProof.Rows L2 My
/-! ### told things, sources, conditions -/
def toldT : PyData → Str
  | .tuple [_, n] => sv n ++ (".*" : Str)
  | .tuple [_, .tuple [a, b], n] => if sv b = sv n then dotT a b else dotT a b ++ (" as " : Str) ++ sv n
  | .tuple [_, t, n] => termT 3 t ++ (" as " : Str) ++ sv n
  | _ => Str.empty
def srcT : PyData → Str
  | .tuple [s, n, l] => if sv l = sv n then dotT s n else dotT s n ++ (" " : Str) ++ sv l
  | _ => Str.empty
def valsT (ds : List PyData) : Str := ("(" : Str) ++ Txt.join (", " : Str) (ds.map fun d => quoT (sv d)) ++ (")" : Str)
def condT : PyData → Str
  | .tuple [.str z, a, .tuple ds] => if z = "equal" then cellT a ++ (" = " : Str) ++ cellT (.tuple ds) else cellT a ++ (" in " : Str) ++ valsT ds
  | _ => Str.empty
def okTold (d : PyData) : Prop := (∃ n, d = .tuple [.str "star", n] ∧ okN n) ∨ (∃ a b n, d = .tuple [.str "column", .tuple [a, b], n] ∧ okO a ∧ okN b ∧ okN n) ∨
  ∃ t n, d = .tuple [.str "term", t, n] ∧ (okN t ∨ okK (okTm 2) t) ∧ okN n
def okSrc (d : PyData) : Prop := ∃ s n l, d = .tuple [s, n, l] ∧ okO s ∧ okN n ∧ okN l
def okCond (d : PyData) : Prop := (∃ a b, d = .tuple [.str "equal", a, b] ∧ okC a ∧ okC b) ∨ ∃ a ds, d = .tuple [.str "in", a, .tuple ds] ∧ okC a ∧ ds.length ≤ 8 ∧ ∀ x ∈ ds, okN x
theorem okTm_of {t : PyData} (h : okN t ∨ okK (okTm 2) t) : okTm 3 t := by
  rcases h with h | h
  · exact .inl h
  · exact .inr (.inr h)
theorem sv_len {n : PyData} (h : okN n) : (sv n).length ≤ 9 := by obtain ⟨z, rfl, hz, _⟩ := h; exact hz
theorem quo_len {z : Str} (h : z.length ≤ 9) : (quoT z).length ≤ 11 := by
  unfold quoT
  rw [cat_len, cat_len]
  have : ("'" : Str).length = 1 := by decide
  omega
theorem vals_len {ds : List PyData} (h : ds.length ≤ 8) (k : ∀ x ∈ ds, okN x) : (valsT ds).length ≤ 200 := by
  unfold valsT
  rw [cat_len, cat_len]
  have q2 := join_len (", " : Str) (ds.map fun d => quoT (sv d))
  have q3 := sum_len (f := fun d => quoT (sv d)) (B := 11) (l := ds) fun t ht => quo_len (sv_len (k t ht))
  have e1 : (", " : Str).length = 2 := by decide
  have e2 : ("(" : Str).length = 1 := by decide
  have e3 : (")" : Str).length = 1 := by decide
  rw [List.length_map, e1] at q2
  omega
theorem told_len {d : PyData} (h : okTold d) : (toldT d).length ≤ 1000 := by
  rcases h with ⟨n, rfl, hn⟩ | ⟨a, b, n, rfl, ha, hb, hn⟩ | ⟨t, n, rfl, ht, hn⟩
  · show (sv n ++ (".*" : Str)).length ≤ _
    rw [cat_len]
    have := sv_len hn
    have : (".*" : Str).length = 2 := by decide
    omega
  · show (if sv b = sv n then dotT a b else dotT a b ++ (" as " : Str) ++ sv n).length ≤ _
    have q := dot_len ha hb
    have := sv_len hn
    have : (" as " : Str).length = 4 := by decide
    split
    · omega
    · rw [cat_len, cat_len]
      omega
  · have e : toldT (.tuple [.str "term", t, n]) = termT 3 t ++ (" as " : Str) ++ sv n := by
      rcases ht with ⟨z, rfl, _⟩ | ⟨s, m, ts, rfl, _⟩ <;> rfl
    rw [e, cat_len, cat_len]
    have q := term_len 3 (okTm_of ht)
    have : lenB 3 = 432 := by decide
    have := sv_len hn
    have : (" as " : Str).length = 4 := by decide
    omega
theorem src_len {d : PyData} (h : okSrc d) : (srcT d).length ≤ 100 := by
  obtain ⟨s, n, l, rfl, hs, hn, hl⟩ := h
  show (if sv l = sv n then dotT s n else dotT s n ++ (" " : Str) ++ sv l).length ≤ _
  have q := dot_len hs hn
  have := sv_len hl
  have : (" " : Str).length = 1 := by decide
  split
  · omega
  · rw [cat_len, cat_len]
    omega
theorem cell_len {d : PyData} (h : okC d) : (cellT d).length ≤ 19 := by
  obtain ⟨a, b, rfl, ha, hb⟩ := h
  exact dot_len ha hb
theorem cond_eq (a b : PyData) (hb : okC b) : condT (.tuple [.str "equal", a, b]) = cellT a ++ (" = " : Str) ++ cellT b := by
  obtain ⟨x, y, rfl, _⟩ := hb
  rfl
theorem ne4 : ¬ ("in" : Str) = "equal" := by decide +kernel
theorem cond_in (a : PyData) (ds : List PyData) : condT (.tuple [.str "in", a, .tuple ds]) = cellT a ++ (" in " : Str) ++ valsT ds := by
  show (if ("in" : Str) = "equal" then cellT a ++ (" = " : Str) ++ cellT (.tuple ds) else cellT a ++ (" in " : Str) ++ valsT ds) = _
  rw [if_neg ne4]
theorem cond_len {d : PyData} (h : okCond d) : (condT d).length ≤ 300 := by
  rcases h with ⟨a, b, rfl, ha, hb⟩ | ⟨a, ds, rfl, ha, hl, hd⟩
  · rw [cond_eq a b hb, cat_len, cat_len]
    have := cell_len ha
    have := cell_len hb
    have : (" = " : Str).length = 3 := by decide
    omega
  · rw [cond_in, cat_len, cat_len]
    have := cell_len ha
    have := vals_len hl hd
    have : (" in " : Str).length = 4 := by decide
    omega
theorem c0 {α : Type} (a b c : α) : atI [a, b, c] 0 = some a := rfl
theorem c1 {α : Type} (a b c : α) : atI [a, b, c] 1 = some b := rfl
theorem c2 {α : Type} (a b c : α) : atI [a, b, c] 2 = some c := rfl
theorem ne1 : ¬ ("column" : Str) = "star" := by decide +kernel
theorem ne2 : ¬ ("term" : Str) = "star" := by decide +kernel
theorem ne3 : ¬ ("term" : Str) = "column" := by decide +kernel
def spVals : Sp := fun vs H Q _ => ∃ v ds, vs = [v] ∧ DT H v (.tuple ds) ∧ ds.length ≤ 8 ∧ (∀ x ∈ ds, okN x) ∧ ∀ H', Same H H' → Q (.str (valsT ds)) H'
section
variable {P : Program} {w : World} {K : PySem.W.Frag} {mg : Str → Option Value} {base : Heap}
theorem scValues : FnScope ["values", "word"] ["values"] (defScope sValues) := ⟨rfl, rfl, rfl, by decide +kernel, rfl, by decide +kernel, by decide +kernel⟩
theorem ok_values {f : Addr} {fd : FuncData} (F : Fun K "text_of_values" "text_of_values" sValues f fd) (cQ : CalN P w K mg base 1 "quoted" spQuo) : FnOk P w K mg base CX0 2 f fd ["values"] spVals := by
  refine Fun.okW F scValues (fun vs H Q E h => by obtain ⟨v, d, rfl, _⟩ := h; rfl) (fun cdv B out s H vs Q E hr h => ?_)
  obtain ⟨v, ds, rfl, hv, hl, hd, q⟩ := h
  have vl := vals_len hl hd
  have e2 : ("(" : Str).length = 1 := by decide
  have e3 : (")" : Str).length = 1 := by decide
  unfold valsT at vl
  rw [cat_len, cat_len] at vl
  refine l_one (s_ret (e_addS (e_addS (e_str ?_))))
  refine e_joinT 1 (fun d => quoT (sv d)) okN 11 scValues.nd (blkOk_by (N := ["values", "word"]) (sc := defScope sValues) (by decide +kernel)) (e_str ⟨_, rfl, by decide, e_var 0 rfl ⟨ds, hv, by omega, fun d h => ⟨hd d h, quo_len (sv_len (hd d h))⟩, by omega, ?_, fun H2 s2 => ?_⟩⟩) (fun _ _ _ _ _ => pg_name (i := 1) scValues.nd rfl (Or.inl rfl))
  · intro d u' H2 okd hud s0 H0 C cl fp
    obtain ⟨z, rfl, hz⟩ := okd
    have eu := hud.strE
    subst eu
    exact e_c cQ hr (Nat.le_refl _) (a_cons (e_var 1 rfl (a_nil ⟨z, rfl, hz, fun H3 s3 => ⟨rfl, s3⟩⟩)))
  · refine ⟨_, _, rfl, rfl, line_ge (by omega), e_str ⟨_, _, rfl, rfl, ?_, q _ s2⟩⟩
    rw [cat_len]
    exact line_ge (by omega)
theorem scSource : FnScope ["source", "schema", "name", "label", "text"] ["source"] (defScope sSource) := ⟨rfl, rfl, rfl, by decide +kernel, rfl, by decide +kernel, by decide +kernel⟩
theorem ok_source {f : Addr} {fd : FuncData} (F : Fun K "text_of_source" "text_of_source" sSource f fd) (cD : CalN P w K mg base 1 "dotted" spDot) : FnOk P w K mg base CX0 2 f fd ["source"] (spT okSrc srcT) := by
  refine Fun.okW F scSource (fun vs H Q E h => by obtain ⟨v, d, rfl, _⟩ := h; rfl) (fun cdv B out s H vs Q E hr h => ?_)
  obtain ⟨v, d, rfl, hv, ⟨sc, n, l, rfl, hs, hn, hl⟩, q⟩ := h
  obtain ⟨t, x, y, z, rfl, ht, hx, hy, hz⟩ := hv.tup3
  refine l_cons (s_asg (pg_tup rfl (pgs_cons (pg_name (i := 1) scSource.nd rfl (.inl rfl)) (pgs_cons (pg_name (i := 2) scSource.nd rfl (.inl rfl)) (pgs_cons (pg_name (i := 3) scSource.nd rfl (.inl rfl)) pgs_nil)))) (e_var 0 rfl ⟨t, _, rfl, .inl (.inl ht), rfl, _, _, rfl, _, _, rfl, _, _, rfl, rfl, ?_⟩))
  refine l_cons (s_set 4 (e_c cD hr (by decide) (a_cons (e_var 1 rfl (a_cons (e_var 2 rfl (a_nil ⟨x, y, sc, n, rfl, hx, hy, hs, hn, fun H1 s1 => ?_⟩)))))) scSource.nd)
  obtain ⟨m, rfl, hm⟩ := hn
  obtain ⟨k, rfl, hk⟩ := hl
  have ey := hy.strE
  have ez := hz.strE
  subst ey ez
  have qd := dot_len hs ⟨m, rfl, hm⟩
  have e1 : (" " : Str).length = 1 := by decide
  have hk9 := hk.1
  refine l_cons (s_if (t_eq (e_var 3 rfl (e_var 2 rfl ⟨rfl, fun e => ?_, fun e => l_nil ?_⟩))))
  · have em : k = m := V.str.inj (of_decide_eq_true e)
    have q' := q H1 s1
    have er : srcT (.tuple [sc, .str m, .str k]) = dotT sc (.str m) := if_pos em
    rw [er] at q'
    exact l_one (s_ret (e_var 4 rfl q'))
  · have em : ¬ k = m := fun z => by simp [z] at e
    have q' := q H1 s1
    have er : srcT (.tuple [sc, .str m, .str k]) = dotT sc (.str m) ++ (" " : Str) ++ k := if_neg em
    rw [er] at q'
    refine l_one (s_ret (e_addS (e_addS (e_var 4 rfl (e_str ⟨_, _, rfl, rfl, line_ge (by omega), e_var 3 rfl ⟨_, _, rfl, rfl, ?_, q'⟩⟩)))))
    rw [cat_len]
    exact line_ge (by omega)
theorem scCond : FnScope ["condition", "word", "column", "other"] ["condition"] (defScope sCond) := ⟨rfl, rfl, rfl, by decide +kernel, rfl, by decide +kernel, by decide +kernel⟩
theorem ok_cond {f : Addr} {fd : FuncData} (F : Fun K "text_of_condition" "text_of_condition" sCond f fd) (cT : CalN P w K mg base 5 "text_of_term" (spT (okTm 3) (termT 3))) (cV : CalN P w K mg base 2 "text_of_values" spVals) : FnOk P w K mg base CX0 6 f fd ["condition"] (spT okCond condT) := by
  refine Fun.okW F scCond (fun vs H Q E h => by obtain ⟨v, d, rfl, _⟩ := h; rfl) (fun cdv B out s H vs Q E hr h => ?_)
  obtain ⟨v, d, rfl, hv, hd, q⟩ := h
  have ct : ∀ {c : PyData}, okC c → okTm 3 c ∧ termT 3 c = cellT c := fun {c} hc => ⟨.inr (.inl hc), by obtain ⟨a, b, rfl, _⟩ := hc; rfl⟩
  rcases hd with ⟨a, b, rfl, ha, hb⟩ | ⟨a, ds, rfl, ha, hl, hds⟩
  · obtain ⟨t, x, y, z, rfl, ht, hx, hy, hz⟩ := hv.tup3
    have ex := hx.strE
    subst ex
    rw [cond_eq a b hb] at q
    have la := cell_len ha
    have lb := cell_len hb
    have e1 : (" = " : Str).length = 3 := by decide
    refine l_cons (s_asg (pg_tup rfl (pgs_cons (pg_name (i := 1) scCond.nd rfl (.inl rfl)) (pgs_cons (pg_name (i := 2) scCond.nd rfl (.inl rfl)) (pgs_cons (pg_name (i := 3) scCond.nd rfl (.inl rfl)) pgs_nil)))) (e_var 0 rfl ⟨t, _, rfl, .inl (.inl ht), rfl, _, _, rfl, _, _, rfl, _, _, rfl, rfl, ?_⟩))
    refine l_cons (s_if (t_eq (e_var 1 rfl (e_str ⟨rfl, fun _ => ?_, fun e => by simp at e⟩))))
    refine l_one (s_ret (e_addS (e_addS (e_c cT hr (by decide) (a_cons (e_var 2 rfl (a_nil ⟨y, a, rfl, hy, (ct ha).1, fun H1 s1 => ?_⟩)))))))
    rw [(ct ha).2]
    refine e_str ⟨_, _, rfl, rfl, line_ge (by omega), e_c cT hr (by decide) (a_cons (e_var 3 rfl (a_nil ⟨z, b, rfl, hz.mono (My.Same.tups s1), (ct hb).1, fun H2 s2 => ?_⟩)))⟩
    rw [(ct hb).2]
    refine ⟨_, _, rfl, rfl, ?_, q _ (s1.trans s2)⟩
    rw [cat_len]
    exact line_ge (by omega)
  · obtain ⟨t, x, y, z, rfl, ht, hx, hy, hz⟩ := hv.tup3
    have ex := hx.strE
    subst ex
    rw [cond_in] at q
    have la := cell_len ha
    have lv := vals_len hl hds
    have e1 : (" in " : Str).length = 4 := by decide
    refine l_cons (s_asg (pg_tup rfl (pgs_cons (pg_name (i := 1) scCond.nd rfl (.inl rfl)) (pgs_cons (pg_name (i := 2) scCond.nd rfl (.inl rfl)) (pgs_cons (pg_name (i := 3) scCond.nd rfl (.inl rfl)) pgs_nil)))) (e_var 0 rfl ⟨t, _, rfl, .inl (.inl ht), rfl, _, _, rfl, _, _, rfl, _, _, rfl, rfl, ?_⟩))
    refine l_cons (s_if (t_eq (e_var 1 rfl (e_str ⟨rfl, fun e => absurd (V.str.inj (of_decide_eq_true e)) ne4, fun _ => l_nil ?_⟩))))
    refine l_one (s_ret (e_addS (e_addS (e_c cT hr (by decide) (a_cons (e_var 2 rfl (a_nil ⟨y, a, rfl, hy, (ct ha).1, fun H1 s1 => ?_⟩)))))))
    rw [(ct ha).2]
    refine e_str ⟨_, _, rfl, rfl, line_ge (by omega), e_c cV hr (by decide) (a_cons (e_var 3 rfl (a_nil ⟨z, ds, rfl, hz.mono (My.Same.tups s1), hl, hds, fun H2 s2 => ?_⟩)))⟩
    refine ⟨_, _, rfl, rfl, ?_, q _ (s1.trans s2)⟩
    rw [cat_len]
    exact line_ge (by omega)
theorem scTold : FnScope ["item", "text"] ["item"] (defScope sTold) := ⟨rfl, rfl, rfl, by decide +kernel, rfl, by decide +kernel, by decide +kernel⟩
theorem ok_told {f : Addr} {fd : FuncData} (F : Fun K "text_of_told" "text_of_told" sTold f fd) (cT : CalN P w K mg base 5 "text_of_term" (spT (okTm 3) (termT 3))) : FnOk P w K mg base CX0 6 f fd ["item"] (spT okTold toldT) := by
  refine Fun.okW F scTold (fun vs H Q E h => by obtain ⟨v, d, rfl, _⟩ := h; rfl) (fun cdv B out s H vs Q E hr h => ?_)
  obtain ⟨v, d, rfl, hv, hd, q⟩ := h
  have e4 : (" as " : Str).length = 4 := by decide
  rcases hd with ⟨n, rfl, ⟨m, rfl, hm⟩⟩ | ⟨a, b, n, rfl, ha, hb, hn⟩ | ⟨tm, n, rfl, htm, hn⟩
  · obtain ⟨t, x, y, rfl, ht, hx, hy⟩ := hv.tup2
    have ex := hx.strE
    have ey := hy.strE
    subst ex ey
    have e1 : (".*" : Str).length = 2 := by decide
    have hm9 := hm.1
    refine l_cons (s_if (t_eq (e_ixT (e_var 0 rfl (e_int ⟨t, _, 0, _, rfl, rfl, .inl (.inl ht), b0 _ _, e_str ⟨rfl, fun _ => ?_, fun e => by simp at e⟩⟩)))))
    exact l_one (s_ret (e_addS (e_ixT (e_var 0 rfl (e_int ⟨t, _, 1, _, rfl, rfl, .inl (.inl ht), b1 _ _, e_str ⟨_, _, rfl, rfl, line_ge (by omega), q _ (Same.refl _)⟩⟩)))))
  · obtain ⟨t, x, y, z, rfl, ht, hx, hy, hz⟩ := hv.tup3
    have ex := hx.strE
    subst ex
    refine l_cons (s_if (t_eq (e_ixT (e_var 0 rfl (e_int ⟨t, _, 0, _, rfl, rfl, .inl (.inl ht), c0 _ _ _, e_str ⟨rfl, fun e => absurd (V.str.inj (of_decide_eq_true e)) ne1, fun _ => l_nil ?_⟩⟩)))))
    refine l_cons (s_set 1 (e_c cT hr (by decide) (a_cons (e_ixT (e_var 0 rfl (e_int ⟨t, _, 1, _, rfl, rfl, .inl (.inl ht), c1 _ _ _, a_nil ⟨y, _, rfl, hy, .inr (.inl ⟨a, b, rfl, ha, hb⟩), fun H1 s1 => ?_⟩⟩))))) scTold.nd)
    have ht1 := s1 _ _ ht
    obtain ⟨t2, x2, y2, rfl, ht2, hx2, hy2⟩ := (hy.mono (My.Same.tups s1)).tup2
    have qd := dot_len ha hb
    obtain ⟨m, rfl, hm⟩ := hb
    obtain ⟨k, rfl, hk⟩ := hn
    have hk9 := hk.1
    have ey2 := hy2.strE
    have ez := hz.strE
    subst ey2 ez
    refine l_cons (s_if (t_w (w_and (t_eq (e_ixT (e_var 0 rfl (e_int ⟨t, _, 0, _, rfl, rfl, .inl (.inl ht1), c0 _ _ _, e_str ⟨rfl, fun _ => ?_, fun e => by simp at e⟩⟩)))))))
    refine w_and1 (t_eq (e_ixT (e_ixT (e_var 0 rfl (e_int ⟨t, _, 1, _, rfl, rfl, .inl (.inl ht1), c1 _ _ _, e_int ⟨t2, _, 1, _, rfl, rfl, .inl (.inl ht2), b1 _ _, e_ixT (e_var 0 rfl (e_int ⟨t, _, 2, _, rfl, rfl, .inl (.inl ht1), c2 _ _ _, rfl, fun e => ?_, fun e => l_nil ?_⟩))⟩⟩)))))
    · have em : m = k := V.str.inj (of_decide_eq_true e)
      have q' := q H1 s1
      have er : toldT (.tuple [.str "column", .tuple [a, .str m], .str k]) = dotT a (.str m) := if_pos em
      rw [er] at q'
      exact l_one (s_ret (e_var 1 rfl q'))
    · have em : ¬ m = k := fun z => by simp [z] at e
      have q' := q H1 s1
      have er : toldT (.tuple [.str "column", .tuple [a, .str m], .str k]) = dotT a (.str m) ++ (" as " : Str) ++ k := if_neg em
      rw [er] at q'
      refine l_one (s_ret (e_addS (e_addS (e_var 1 rfl (e_str ⟨dotT a (.str m), _, rfl, rfl, line_ge (by omega), e_ixT (e_var 0 rfl (e_int ⟨t, _, 2, _, rfl, rfl, .inl (.inl ht1), c2 _ _ _, _, _, rfl, rfl, ?_, q'⟩))⟩)))))
      rw [cat_len]
      exact line_ge (by omega)
  · obtain ⟨t, x, y, z, rfl, ht, hx, hy, hz⟩ := hv.tup3
    have ex := hx.strE
    subst ex
    have tl := term_len 3 (okTm_of htm)
    have : lenB 3 = 432 := by decide
    have er : toldT (.tuple [.str "term", tm, n]) = termT 3 tm ++ (" as " : Str) ++ sv n := by
      rcases htm with ⟨z, rfl, _⟩ | ⟨s, m, ts, rfl, _⟩ <;> rfl
    rw [er] at q
    obtain ⟨k, rfl, hk⟩ := hn
    have hk9 := hk.1
    have ez := hz.strE
    subst ez
    refine l_cons (s_if (t_eq (e_ixT (e_var 0 rfl (e_int ⟨t, _, 0, _, rfl, rfl, .inl (.inl ht), c0 _ _ _, e_str ⟨rfl, fun e => absurd (V.str.inj (of_decide_eq_true e)) ne2, fun _ => l_nil ?_⟩⟩)))))
    refine l_cons (s_set 1 (e_c cT hr (by decide) (a_cons (e_ixT (e_var 0 rfl (e_int ⟨t, _, 1, _, rfl, rfl, .inl (.inl ht), c1 _ _ _, a_nil ⟨y, _, rfl, hy, okTm_of htm, fun H1 s1 => ?_⟩⟩))))) scTold.nd)
    have ht1 := s1 _ _ ht
    refine l_cons (s_if (t_w (w_and (t_eq (e_ixT (e_var 0 rfl (e_int ⟨t, _, 0, _, rfl, rfl, .inl (.inl ht1), c0 _ _ _, e_str ⟨rfl, fun e => absurd (V.str.inj (of_decide_eq_true e)) ne3, fun _ => ⟨fun e => Bool.noConfusion e, fun _ => l_nil ?_⟩⟩⟩)))))))
    refine l_one (s_ret (e_addS (e_addS (e_var 1 rfl (e_str ⟨termT 3 tm, _, rfl, rfl, line_ge (by omega), e_ixT (e_var 0 rfl (e_int ⟨t, _, 2, _, rfl, rfl, .inl (.inl ht1), c2 _ _ _, _, _, rfl, rfl, ?_, q _ s1⟩))⟩)))))
    rw [cat_len]
    exact line_ge (by omega)
end
end K10

namespace K10
open PySem PySem.Spec PyProof.Rows L2 My
def okL (ok : PyData → Prop) (ds : List PyData) : Prop := ds.length ≤ 8 ∧ ∀ d ∈ ds, ok d
def okSt (d : PyData) : Prop := ∃ b ts ss cs, d = .tuple [.bool b, .tuple ts, .tuple ss, .tuple cs] ∧ okL okTold ts ∧ okL okSrc ss ∧ okL okCond cs
def comma : Str := ", "
def selT (b : Bool) : Str := if b = true then "select distinct " else "select "
def whereT (cs : List PyData) : Str := if cs.isEmpty = true then Str.empty else (" where " : Str) ++ Txt.join (" and " : Str) (cs.map condT)
def writeT : PyData → Str
  | .tuple [.bool b, .tuple ts, .tuple ss, .tuple cs] => selT b ++ Txt.join (", " : Str) (ts.map toldT) ++ ((" from " : Str) ++ Txt.join (", " : Str) (ss.map srcT)) ++ whereT cs
  | _ => Str.empty
theorem empty_cat (x : Str) : x ++ Str.empty = x := str_ext (by rw [str_cat]; show x.cps.toList ++ [] = _; rw [List.append_nil])
theorem cat_empty (x : Str) : Str.empty ++ x = x := str_ext (by rw [str_cat]; rfl)
theorem join8 {sep : Str} {f : PyData → Str} {ok : PyData → Prop} {B : Nat} {ds : List PyData} (h : okL ok ds) (hs : sep.length ≤ 10) (hf : ∀ d, ok d → (f d).length ≤ B) : (Txt.join sep (ds.map f)).length ≤ 8 * B + 80 := by
  have q2 := join_len sep (ds.map f)
  have q3 := sum_len (f := f) (B := B) (l := ds) fun t ht => hf t (h.2 t ht)
  have q4 : ds.length * B ≤ 8 * B := Nat.mul_le_mul_right _ h.1
  have q5 : ds.length * sep.length ≤ 8 * 10 := Nat.mul_le_mul h.1 hs
  rw [List.length_map] at q2
  omega
theorem sel_len (b : Bool) : (selT b).length ≤ 20 := by cases b <;> decide
/-! ### the forms as data: signs, sizes, depths -/
mutual
theorem lay_ok : ∀ d : PyData, okD d = true → PyData.canLay0 d = true
  | .none, _ => rfl
  | .bool _, _ => rfl
  | .str x, h => by
    show (x.cps.all (· < 0x110000)) = true
    rw [← Array.all_toList, List.all_eq_true]
    intro c hc
    have h1 : (x.cps.toList.all fun c => decide (c < 128)) = true := h
    have := of_decide_eq_true (List.all_eq_true.mp h1 c hc)
    exact decide_eq_true (by omega)
  | .tuple ds, h => lays_ok ds h
  | .int _, h => by cases h
  | .list _, h => by cases h
  | .dict _, h => by cases h
theorem lays_ok : ∀ ds : List PyData, okDs ds = true → PyData.canLayAll0 ds = true
  | [], _ => rfl
  | d :: ds, h => by
    have h' : (okD d && okDs ds) = true := h
    simp only [Bool.and_eq_true] at h'
    show (PyData.canLay0 d && PyData.canLayAll0 ds) = true
    rw [lay_ok d h'.1, lays_ok ds h'.2]
    rfl
end
/-- signs are small, the size at most n, the depth at most k -/
def Fine (n k : Nat) (d : PyData) : Prop := okD d = true ∧ szD d ≤ n ∧ d.depth ≤ k
theorem Fine.mono {n k m j : Nat} {d : PyData} (h : Fine n k d) (hn : n ≤ m) (hk : k ≤ j) : Fine m j d := ⟨h.1, Nat.le_trans h.2.1 hn, Nat.le_trans h.2.2 hk⟩
theorem Fine.tuple {n k : Nat} {ds : List PyData} (h : ∀ d ∈ ds, Fine n k d) : Fine (ds.length * (n + 2) + 5) (k + 1) (.tuple ds) :=
  ⟨okDs_of fun d hd => (h d hd).1, by show szDs ds + 5 ≤ _; have := szDs_of fun d hd => (h d hd).2.1; omega, by show PyData.depthAll ds + 1 ≤ _; have := depth_of fun d hd => (h d hd).2.2; omega⟩
theorem fineN {d : PyData} (h : okN d) : Fine 95 0 d := by obtain ⟨z, rfl, h1, h2⟩ := h; exact ⟨h2, by show 10 * z.length + 5 ≤ 95; omega, Nat.le_refl _⟩
theorem fineO {d : PyData} (h : okO d) : Fine 95 0 d := by
  rcases h with rfl | h
  · exact ⟨rfl, by decide, Nat.le_refl _⟩
  · exact fineN h
theorem fine2 {n k : Nat} {a b : PyData} (ha : Fine n k a) (hb : Fine n k b) : Fine (2 * (n + 2) + 5) (k + 1) (.tuple [a, b]) := Fine.tuple fun d hd => by
  simp only [List.mem_cons, List.not_mem_nil, or_false] at hd
  rcases hd with rfl | rfl <;> assumption
theorem fine3 {n k : Nat} {a b c : PyData} (ha : Fine n k a) (hb : Fine n k b) (hc : Fine n k c) : Fine (3 * (n + 2) + 5) (k + 1) (.tuple [a, b, c]) := Fine.tuple fun d hd => by
  simp only [List.mem_cons, List.not_mem_nil, or_false] at hd
  rcases hd with rfl | rfl | rfl <;> assumption
theorem fine4 {n k : Nat} {a b c e : PyData} (ha : Fine n k a) (hb : Fine n k b) (hc : Fine n k c) (he : Fine n k e) : Fine (4 * (n + 2) + 5) (k + 1) (.tuple [a, b, c, e]) := Fine.tuple fun d hd => by
  simp only [List.mem_cons, List.not_mem_nil, or_false] at hd
  rcases hd with rfl | rfl | rfl | rfl <;> assumption
theorem fineC {d : PyData} (h : okC d) : Fine 199 1 d := by obtain ⟨a, b, rfl, ha, hb⟩ := h; exact fine2 (fineO ha) (fineN hb)
def szB : Nat → Nat
  | 0 => 199
  | k + 1 => 8 * szB k + 100
theorem szB_ge : ∀ k, 199 ≤ szB k
  | 0 => Nat.le_refl _
  | k + 1 => by have := szB_ge k; show 199 ≤ 8 * szB k + 100; omega
theorem fineTm : ∀ (k : Nat) {d : PyData}, okTm k d → Fine (szB k) (2 * k + 1) d
  | k, d, h => by
    have hk := szB_ge k
    rcases h.cases with h | h | ⟨j, rfl, s, n, ts, rfl, hs, hn, h1, h2, hts⟩
    · exact (fineN h).mono (by omega) (by omega)
    · exact (fineC h).mono hk (by omega)
    · have ht : Fine (2 * (szB j + 2) + 5) (2 * j + 2) (.tuple ts) := (Fine.tuple fun d hd => fineTm j (hts d hd)).mono (Nat.add_le_add_right (Nat.mul_le_mul_right _ h2) _) (by omega)
      have hj := szB_ge j
      refine (fine4 (n := 2 * (szB j + 2) + 5) (k := 2 * j + 2) ?_ ((fineO hs).mono (by omega) (by omega)) ((fineN hn).mono (by omega) (by omega)) ht).mono (by show _ ≤ 8 * szB j + 100; omega) (by omega)
      exact ⟨by decide +kernel, by show 10 * 4 + 5 ≤ _; omega, Nat.zero_le _⟩
theorem fineTold {d : PyData} (h : okTold d) : Fine 600000 8 d := by
  have e3 : szB 3 = 109188 := by decide
  rcases h with ⟨n, rfl, hn⟩ | ⟨a, b, n, rfl, ha, hb, hn⟩ | ⟨t, n, rfl, ht, hn⟩
  · exact (fine2 (n := 95) (k := 0) ⟨by decide +kernel, by decide, Nat.zero_le _⟩ (fineN hn)).mono (by omega) (by omega)
  · exact (fine3 (n := 199) (k := 1) ⟨by decide +kernel, by decide, Nat.zero_le _⟩ (fineC ⟨a, b, rfl, ha, hb⟩) ((fineN hn).mono (by omega) (by omega))).mono (by omega) (by omega)
  · exact (fine3 (n := szB 3) (k := 7) ⟨by decide +kernel, by rw [e3]; decide, Nat.zero_le _⟩ (fineTm 3 (okTm_of ht)) ((fineN hn).mono (by omega) (by omega))).mono (by omega) (by omega)
theorem fineSrc {d : PyData} (h : okSrc d) : Fine 300 1 d := by
  obtain ⟨s, n, l, rfl, hs, hn, hl⟩ := h
  exact (fine3 (fineO hs) (fineN hn) (fineN hl)).mono (by omega) (by omega)
theorem fineCond {d : PyData} (h : okCond d) : Fine 3000 3 d := by
  rcases h with ⟨a, b, rfl, ha, hb⟩ | ⟨a, ds, rfl, ha, hl, hd⟩
  · exact (fine3 (n := 199) (k := 1) ⟨by decide +kernel, by decide, Nat.zero_le _⟩ (fineC ha) (fineC hb)).mono (by omega) (by omega)
  · have ht : Fine 781 1 (.tuple ds) := (Fine.tuple fun d h => fineN (hd d h)).mono (by have := Nat.mul_le_mul_right 97 hl; omega) (by omega)
    exact (fine3 (n := 781) (k := 1) ⟨by decide +kernel, by decide, Nat.zero_le _⟩ ((fineC ha).mono (by omega) (by omega)) ht).mono (by omega) (by omega)
theorem fineL {ok : PyData → Prop} {n k : Nat} {ds : List PyData} (h : okL ok ds) (f : ∀ d, ok d → Fine n k d) : Fine (8 * (n + 2) + 5) (k + 1) (.tuple ds) :=
  (Fine.tuple fun d hd => f d (h.2 d hd)).mono (Nat.add_le_add_right (Nat.mul_le_mul_right _ h.1) _) (Nat.le_refl _)
theorem Fine.shaped {n k : Nat} {d : PyData} (h : Fine n k d) (hk : k ≤ 60) : SeqAt.shaped d = true := by
  show (PyData.canLay0 d && decide (PyData.depth d ≤ 64)) = true
  rw [lay_ok d h.1, decide_eq_true (Nat.le_trans h.2.2 (by omega))]
  rfl
section
variable {X : Cx} {e : Expr} {σ : L2.St} {H : Hp} {D : Ends} {pos pos' : Pos} {x : Str}
theorem s_augS (i : Nat) (h : ∃ z : Str, σ[i]? = some (some (.str z)) ∧ WE X e σ H fun y H1 => ∃ j, y = .str j ∧ z.length + j.length ≤ sizeLine ∧ D.nx (σ.set i (some (.str (z ++ j)))) H1) (hN : X.N.Nodup) (hi : X.N[i]? = some x := by rfl) (hx : Loc X.env.scope x := by first | exact Or.inl rfl | exact Or.inr rfl)
    (hf : X.fn x = true ∨ X.env.scope.names.lookup x = some .local := by first | exact .inl rfl | exact .inr rfl | assumption) : WS X (.AugAssign (.Name x pos') .Add e pos) D σ H := by
  obtain ⟨z, hz, h⟩ := h
  exact toS (ps_aug (ti := fun x y H Q => ∃ i j, x = .str i ∧ y = .str j ∧ i.length + j.length ≤ sizeLine ∧ Q (.str (i ++ j)) H) hN hi hx pE (fun pins s σ H x y u v Q I rx ry h => iop_add_str pins s σ H x y u v Q I rx ry h) hf)
    ⟨.str z, hz, WE.mono h fun y H1 ⟨j, ey, hl, q⟩ => ⟨z, j, rfl, ey, hl, q⟩⟩
end
section
variable {P : Program} {w : World} {K : PySem.W.Frag} {mg : Str → Option Value} {base : Heap}
theorem scWrite : FnScope ["statement", "distinct", "told", "sources", "conditions", "text", "item", "source", "condition"] ["statement"] (defScope sWrite) := ⟨rfl, rfl, rfl, by decide +kernel, rfl, by decide +kernel, by decide +kernel⟩
theorem ok_write {f : Addr} {fd : FuncData} (F : Fun K "write" "write" sWrite f fd) (cT : CalN P w K mg base 6 "text_of_told" (spT okTold toldT)) (cS : CalN P w K mg base 2 "text_of_source" (spT okSrc srcT)) (cC : CalN P w K mg base 6 "text_of_condition" (spT okCond condT)) : FnOk P w K mg base CX0 7 f fd ["statement"] (spT okSt writeT) := by
  refine Fun.okW F scWrite (fun vs H Q E h => by obtain ⟨v, d, rfl, _⟩ := h; rfl) (fun cdv B out s H vs Q E hr h => ?_)
  obtain ⟨v, d, rfl, hv, ⟨b, ts, ss, cs, rfl, ht, hs, hc⟩, q⟩ := h
  obtain ⟨t, x1, x2, x3, x4, rfl, h0, h1, h2, h3, h4⟩ := hv.tup4
  have e1 := h1.blE
  subst e1
  have jt := join8 (sep := (", " : Str)) (f := toldT) (B := 1000) ht (by decide) fun d h => told_len h
  have js := join8 (sep := (", " : Str)) (f := srcT) (B := 100) hs (by decide) fun d h => src_len h
  have jc := join8 (sep := (" and " : Str)) (f := condT) (B := 300) hc (by decide) fun d h => cond_len h
  have sb := sel_len b
  have ef : (" from " : Str).length = 6 := by decide
  have ew : (" where " : Str).length = 7 := by decide
  refine l_cons (s_asg (pg_tup rfl (pgs_cons (pg_name (i := 1) scWrite.nd rfl (.inl rfl)) (pgs_cons (pg_name (i := 2) scWrite.nd rfl (.inl rfl)) (pgs_cons (pg_name (i := 3) scWrite.nd rfl (.inl rfl)) (pgs_cons (pg_name (i := 4) scWrite.nd rfl (.inl rfl)) pgs_nil))))) (e_var 0 rfl ⟨t, _, rfl, .inl (.inl h0), rfl, _, _, rfl, _, _, rfl, _, _, rfl, _, _, rfl, rfl, ?_⟩))
  refine l_cons (s_set 5 (e_if (t_tru (e_var 1 rfl ⟨b, rfl, fun e => e_str ?_, fun e => e_str ?_⟩))) scWrite.nd)
  all_goals
    refine l_cons (s_augS 5 ⟨selT b, by subst e; rfl, ?_⟩ scWrite.nd)
    refine e_joinT 6 toldT okTold 1000 scWrite.nd (blkOk_by (N := ["statement", "distinct", "told", "sources", "conditions", "text", "item", "source", "condition"]) (sc := defScope sWrite) (by decide +kernel)) (e_str ⟨_, rfl, by decide, e_var 2 rfl ⟨ts, h2, by have := ht.1; omega, fun d h => ⟨ht.2 d h, told_len (ht.2 d h)⟩, by omega, ?_, fun H1 s1 => ?_⟩⟩) (fun _ _ _ _ _ => pg_name (i := 6) scWrite.nd rfl (Or.inl rfl))
    · intro d u' H2 okd hud s0 H0 C cl fp
      exact e_c cT hr (Nat.le_refl _) (a_cons (e_var 6 rfl (a_nil ⟨u', d, rfl, hud, okd, fun H3 s3 => ⟨rfl, s3⟩⟩)))
    refine ⟨_, rfl, line_ge (by omega), ?_⟩
    refine l_cons (s_augS 5 ⟨_, rfl, e_addS (e_str ?_)⟩ scWrite.nd)
    refine e_joinT 7 srcT okSrc 100 scWrite.nd (blkOk_by (N := ["statement", "distinct", "told", "sources", "conditions", "text", "item", "source", "condition"]) (sc := defScope sWrite) (by decide +kernel)) (e_str ⟨_, rfl, by decide, e_var 3 rfl ⟨ss, h3.mono (My.Same.tups s1), by have := hs.1; omega, fun d h => ⟨hs.2 d h, src_len (hs.2 d h)⟩, by omega, ?_, fun H2 s2 => ?_⟩⟩) (fun _ _ _ _ _ => pg_name (i := 7) scWrite.nd rfl (Or.inl rfl))
    · intro d u' H2 okd hud s0 H0 C cl fp
      exact e_c cS hr (by decide) (a_cons (e_var 7 rfl (a_nil ⟨u', d, rfl, hud, okd, fun H3 s3 => ⟨rfl, s3⟩⟩)))
    refine ⟨_, _, rfl, rfl, line_ge (by omega), _, rfl, line_ge (by rw [cat_len, cat_len]; omega), ?_⟩
    have s02 := s1.trans s2
    obtain ⟨tc, xc, rfl, hc0, hcs⟩ := (h4.mono (My.Same.tups s02)).tupE
    have lc := hcs.length
    refine l_cons (s_if (t_tru (e_var 4 rfl ⟨!xc.isEmpty, .inr (.inl ⟨xc, .inl (.inl hc0), rfl⟩), fun e2 => ?_, fun e2 => l_nil ?_⟩)))
    · have ne : cs.isEmpty = false := by
        cases cs with
        | nil => cases xc with
          | nil => cases e2
          | cons _ _ => cases lc
        | cons _ _ => rfl
      refine l_one (s_augS 5 ⟨_, rfl, e_addS (e_str ?_)⟩ scWrite.nd)
      refine e_joinT 8 condT okCond 300 scWrite.nd (blkOk_by (N := ["statement", "distinct", "told", "sources", "conditions", "text", "item", "source", "condition"]) (sc := defScope sWrite) (by decide +kernel)) (e_str ⟨_, rfl, by decide, e_var 4 rfl ⟨cs, h4.mono (My.Same.tups s02), by have := hc.1; omega, fun d h => ⟨hc.2 d h, cond_len (hc.2 d h)⟩, by omega, ?_, fun H3 s3 => ?_⟩⟩) (fun _ _ _ _ _ => pg_name (i := 8) scWrite.nd rfl (Or.inl rfl))
      · intro d u' H2 okd hud s0 H0 C cl fp
        exact e_c cC hr (Nat.le_refl _) (a_cons (e_var 8 rfl (a_nil ⟨u', d, rfl, hud, okd, fun H3 s3 => ⟨rfl, s3⟩⟩)))
      refine ⟨_, _, rfl, rfl, line_ge (by omega), _, rfl, line_ge (by rw [cat_len, cat_len, cat_len, cat_len]; omega), ?_⟩
      have q' := q H3 (s02.trans s3)
      have er : whereT cs = (" where " : Str) ++ Txt.join (" and " : Str) (cs.map condT) := by unfold whereT; rw [if_neg (by rw [ne]; exact Bool.false_ne_true)]
      have ew2 : writeT (.tuple [.bool b, .tuple ts, .tuple ss, .tuple cs]) = selT b ++ Txt.join (", " : Str) (ts.map toldT) ++ ((" from " : Str) ++ Txt.join (", " : Str) (ss.map srcT)) ++ whereT cs := rfl
      rw [ew2, er] at q'
      exact l_one (s_ret (e_var 5 rfl q'))
    · have ne : cs.isEmpty = true := by
        cases cs with
        | nil => rfl
        | cons _ _ => cases xc with
          | nil => cases lc
          | cons _ _ => cases e2
      have q' := q H2 s02
      have er : whereT cs = Str.empty := if_pos ne
      have ew2 : writeT (.tuple [.bool b, .tuple ts, .tuple ss, .tuple cs]) = selT b ++ Txt.join (", " : Str) (ts.map toldT) ++ ((" from " : Str) ++ Txt.join (", " : Str) (ss.map srcT)) ++ whereT cs := rfl
      rw [ew2, er, empty_cat] at q'
      exact l_one (s_ret (e_var 5 rfl q'))
end
end K10

namespace K10
open PySem PySem.Spec PyProof.Rows L2 My
abbrev sCellT : Stmt := top 18
abbrev sTermT : Stmt := top 19
abbrev sToldT : Stmt := top 20
abbrev sAskT : Stmt := top 21
abbrev sOrgT : Stmt := top 22
abbrev sText : Stmt := top 23
section
variable {X : Cx} {a b c : Expr} {σ : L2.St} {H : Hp} {Q : VK} {pos : Pos}
/-- a if c else b, both ways to the same value, all as it was -/
theorem e_ifV {v : V} (k : Bool) (q : ∀ H', Same H H' → Q v H') (h : WT X c σ H fun j H1 => j = k ∧ Same H H1) (ha : k = true → ∀ H1, Same H H1 → WE X a σ H1 fun y H2 => y = v ∧ Same H1 H2) (hb : k = false → ∀ H1, Same H H1 → WE X b σ H1 fun y H2 => y = v ∧ Same H1 H2) : WE X (.IfExp c a b pos) σ H Q :=
  e_if (WT.mono h fun j H1 ⟨e, s1⟩ => by
    subst e
    exact ⟨fun e => WE.mono (ha e H1 s1) fun y H2 ⟨ey, s2⟩ => by subst ey; exact q H2 (s1.trans s2), fun e => WE.mono (hb e H1 s1) fun y H2 ⟨ey, s2⟩ => by subst ey; exact q H2 (s1.trans s2)⟩)
end
section
variable {P : Program} {w : World} {K : PySem.W.Frag} {mg : Str → Option Value} {base : Heap}
theorem scCellT : FnScope ["_law_cell_here"] ["_law_cell_here"] (defScope sCellT) := ⟨rfl, rfl, rfl, by decide +kernel, rfl, by decide +kernel, by decide +kernel⟩
theorem ok_cellT {f : Addr} {fd : FuncData} (F : Fun K "_law_cell_text" "_law_cell_text" sCellT f fd) : FnOk P w K mg base CX0 1 f fd ["_law_cell_here"] (spT okC cellT) := by
  refine Fun.okW F scCellT (fun vs H Q E h => by obtain ⟨v, d, rfl, _⟩ := h; rfl) (fun cdv B out s H vs Q E hr h => ?_)
  obtain ⟨v, d, rfl, hv, ⟨a, b, rfl, ha, ⟨z, rfl, hz, _⟩⟩, q⟩ := h
  obtain ⟨t, x, y, rfl, ht, hx, hy⟩ := hv.tup2
  have ey := hy.strE
  subst ey
  refine l_one (s_ret (e_if (t_isN (e_ixT (e_var 0 rfl (e_int ⟨t, _, 0, _, rfl, rfl, .inl (.inl ht), b0 _ _, ?_⟩))))))
  rcases ha with rfl | ⟨l, rfl, hl, _⟩
  · have ex := hx.nonE
    subst ex
    exact ⟨fun _ => e_ixT (e_var 0 rfl (e_int ⟨t, _, 1, _, rfl, rfl, .inl (.inl ht), b1 _ _, q _ (Same.refl _)⟩)), fun e => by simp at e⟩
  · have ex := hx.strE
    subst ex
    have e1 : ("." : Str).length = 1 := by decide
    refine ⟨fun e => by simp at e, fun _ => e_addS (e_addS (e_ixT (e_var 0 rfl (e_int ⟨t, _, 0, _, rfl, rfl, .inl (.inl ht), b0 _ _, e_str ⟨_, _, rfl, rfl, line_ge (by omega), e_ixT (e_var 0 rfl (e_int ⟨t, _, 1, _, rfl, rfl, .inl (.inl ht), b1 _ _, _, _, rfl, rfl, ?_, q _ (Same.refl _)⟩))⟩⟩))))⟩
    rw [cat_len]
    exact line_ge (by omega)
theorem scTermT : FnScope ["_law_term_here", "_law_head", "_law_one"] ["_law_term_here"] (defScope sTermT) := ⟨rfl, rfl, rfl, by decide +kernel, rfl, by decide +kernel, by decide +kernel⟩
theorem ok_termT {f : Addr} {fd : FuncData} (F : Fun K "_law_term_text" "_law_term_text" sTermT f fd) (bd : Binds K fd ["_law_term_here"] []) (hm : mg "_law_term_text" = some (.ref f)) (G : Bm mg) (cD : CalN P w K mg base 1 "_law_cell_text" (spT okC cellT)) :
    ∀ k, k ≤ 6 → FnOk P w K mg base CX0 (k + 2) f fd ["_law_term_here"] (spT (okTm k) (termT k)) := by
  intro k
  induction k with
  | zero =>
    intro _
    refine Fun.okW F scTermT (fun vs H Q E h => by obtain ⟨v, d, rfl, _⟩ := h; rfl) (fun cdv B out s H vs Q E hr h => ?_)
    obtain ⟨v, d, rfl, hv, hd, q⟩ := h
    have e0 : ("'" : Str).length = 1 := by decide
    rcases hd with ⟨z, rfl, hz, _⟩ | ⟨a, b, rfl, ha, hb⟩
    · have ev := hv.strE
      subst ev
      refine l_cons (s_if (t_val (e_isi G.isi G.str PyProof.Rows.boot_str (e_var 0 rfl ⟨"str", true, ty_str, ss, true, rfl, fun _ => ?_, fun e => Bool.noConfusion e⟩))))
      refine l_one (s_ret (e_addS (e_addS (e_str (e_var 0 rfl ⟨_, z, rfl, rfl, line_ge (by omega), e_str ⟨_, _, rfl, rfl, ?_, q _ (Same.refl _)⟩⟩)))))
      rw [cat_len]
      exact line_ge (by omega)
    · obtain ⟨t, x, y, rfl, ht, hx, hy⟩ := hv.tup2
      refine l_cons (s_if (t_val (e_isi G.isi G.str PyProof.Rows.boot_str (e_var 0 rfl ⟨"tuple", false, ty_tup ht, ts, false, rfl, fun e => Bool.noConfusion e, fun _ => l_nil ?_⟩))))
      refine l_cons (s_if (t_eq (e_len G.len (e_var 0 rfl ⟨t, _, rfl, .inr (.inl (.inl ht)), e_int ⟨rfl, fun _ => ?_, fun e => by simp at e⟩⟩))))
      exact l_one (s_ret (e_c cD hr (by decide) (a_cons (e_var 0 rfl (a_nil ⟨_, _, rfl, hv, ⟨a, b, rfl, ha, hb⟩, q⟩)))))
  | succ k ih =>
    intro hk
    have cT : CalN P w K mg base (k + 2) "_law_term_text" (spT (okTm k) (termT k)) := ⟨f, fd, _, ih (by omega), hm, F.kp, bd⟩
    refine Fun.okW F scTermT (fun vs H Q E h => by obtain ⟨v, d, rfl, _⟩ := h; rfl) (fun cdv B out s H vs Q E hr h => ?_)
    obtain ⟨v, d, rfl, hv, hd, q⟩ := h
    have e0 : ("'" : Str).length = 1 := by decide
    rcases hd with ⟨z, rfl, hz, _⟩ | ⟨a, b, rfl, ha, hb⟩ | ⟨sc, n, ts', rfl, hs, hn, h1, h2, hts⟩
    · have ev := hv.strE
      subst ev
      refine l_cons (s_if (t_val (e_isi G.isi G.str PyProof.Rows.boot_str (e_var 0 rfl ⟨"str", true, ty_str, ss, true, rfl, fun _ => ?_, fun e => Bool.noConfusion e⟩))))
      refine l_one (s_ret (e_addS (e_addS (e_str (e_var 0 rfl ⟨_, z, rfl, rfl, line_ge (by omega), e_str ⟨_, _, rfl, rfl, ?_, q _ (Same.refl _)⟩⟩)))))
      rw [cat_len]
      exact line_ge (by omega)
    · obtain ⟨t, x, y, rfl, ht, hx, hy⟩ := hv.tup2
      refine l_cons (s_if (t_val (e_isi G.isi G.str PyProof.Rows.boot_str (e_var 0 rfl ⟨"tuple", false, ty_tup ht, ts, false, rfl, fun e => Bool.noConfusion e, fun _ => l_nil ?_⟩))))
      refine l_cons (s_if (t_eq (e_len G.len (e_var 0 rfl ⟨t, _, rfl, .inr (.inl (.inl ht)), e_int ⟨rfl, fun _ => ?_, fun e => by simp at e⟩⟩))))
      exact l_one (s_ret (e_c cD hr (by omega) (a_cons (e_var 0 rfl (a_nil ⟨_, _, rfl, hv, ⟨a, b, rfl, ha, hb⟩, q⟩)))))
    · obtain ⟨t, x, y, z, u, rfl, ht, hx, hy, hz, hu⟩ := hv.tup4
      refine l_cons (s_if (t_val (e_isi G.isi G.str PyProof.Rows.boot_str (e_var 0 rfl ⟨"tuple", false, ty_tup ht, ts, false, rfl, fun e => Bool.noConfusion e, fun _ => l_nil ?_⟩))))
      refine l_cons (s_if (t_eq (e_len G.len (e_var 0 rfl ⟨t, _, rfl, .inr (.inl (.inl ht)), e_int ⟨rfl, fun e => by simp at e, fun _ => l_nil ?_⟩⟩))))
      have q1 := dot_len hs hn
      have e1 : ("(" : Str).length = 1 := by decide
      have e2 : (")" : Str).length = 1 := by decide
      have lk := lenB_le k (by omega)
      obtain ⟨nn, rfl, hnn, _⟩ := hn
      have ez := hz.strE
      subst ez
      refine l_cons (WS.cut (P := fun σ H2 => σ = [some (.ref t), some (.str (dotT sc (.str nn))), none] ∧ H2 = H) (s_set 1 (e_if (t_isN (e_ixT (e_var 0 rfl (e_int ⟨t, _, 1, _, rfl, rfl, .inl (.inl ht), at_1 _ _ _ _, ?_⟩))))) scTermT.nd) ?_)
      · rcases hs with rfl | ⟨l, rfl, hl, _⟩
        · have ey := hy.nonE
          subst ey
          exact ⟨fun _ => e_ixT (e_var 0 rfl (e_int ⟨t, _, 2, _, rfl, rfl, .inl (.inl ht), at_2 _ _ _ _, rfl, rfl⟩)), fun e => by simp at e⟩
        · have ey := hy.strE
          subst ey
          have e1 : ("." : Str).length = 1 := by decide
          refine ⟨fun e => by simp at e, fun _ => e_addS (e_addS (e_ixT (e_var 0 rfl (e_int ⟨t, _, 1, _, rfl, rfl, .inl (.inl ht), at_1 _ _ _ _, e_str ⟨_, _, rfl, rfl, line_ge (by omega), e_ixT (e_var 0 rfl (e_int ⟨t, _, 2, _, rfl, rfl, .inl (.inl ht), at_2 _ _ _ _, _, _, rfl, rfl, ?_, rfl, rfl⟩))⟩⟩))))⟩
          rw [cat_len]
          exact line_ge (by omega)
      rintro σ H2 ⟨rfl, rfl⟩
      refine l_one (s_ret (e_addS (e_addS (e_addS (e_var 1 rfl (e_str ⟨_, _, rfl, rfl, line_ge (by omega), ?_⟩))))))
      refine e_joinT 2 (termT k) (okTm k) (lenB k) scTermT.nd (blkOk_by (N := ["_law_term_here", "_law_head", "_law_one"]) (sc := defScope sTermT) (by decide +kernel)) (e_str ⟨_, rfl, by decide, e_ixT (e_var 0 rfl (e_int ⟨t, _, 3, _, rfl, rfl, .inl (.inl ht), at_3 _ _ _ _, ts', hu, by omega, fun d hd => ⟨hts d hd, term_len k (hts d hd)⟩, by omega, ?_, fun H2 s2 => ?_⟩))⟩) (fun _ _ _ _ _ => pg_name (i := 2) scTermT.nd rfl (Or.inl rfl))
      · intro d u' H2 okd hud s0 H0 C cl fp
        exact e_c cT hr (Nat.le_refl _) (a_cons (e_var 2 rfl (a_nil ⟨u', d, rfl, hud, okd, fun H3 s3 => ⟨rfl, s3⟩⟩)))
      · have q2 := join_len (", " : Str) (ts'.map (termT k))
        have q3 := sum_len (f := termT k) (B := lenB k) (l := ts') fun t ht => term_len k (hts t ht)
        have q4 : ts'.length * lenB k ≤ 2 * lenB k := Nat.mul_le_mul_right _ h2
        have e3 : (", " : Str).length = 2 := by decide
        rw [List.length_map, e3] at q2
        refine ⟨_, _, rfl, rfl, ?_, e_str ⟨_, _, rfl, rfl, ?_, q _ s2⟩⟩
        · rw [cat_len]
          exact line_ge (by omega)
        · rw [cat_len, cat_len]
          exact line_ge (by omega)
theorem scToldT : FnScope ["_law_one"] ["_law_one"] (defScope sToldT) := ⟨rfl, rfl, rfl, by decide +kernel, rfl, by decide +kernel, by decide +kernel⟩
theorem ok_toldT {f : Addr} {fd : FuncData} (F : Fun K "_law_told_text" "_law_told_text" sToldT f fd) (cC : CalN P w K mg base 1 "_law_cell_text" (spT okC cellT)) (cT : CalN P w K mg base 5 "_law_term_text" (spT (okTm 3) (termT 3))) : FnOk P w K mg base CX0 6 f fd ["_law_one"] (spT okTold toldT) := by
  refine Fun.okW F scToldT (fun vs H Q E h => by obtain ⟨v, d, rfl, _⟩ := h; rfl) (fun cdv B out s H vs Q E hr h => ?_)
  obtain ⟨v, d, rfl, hv, hd, q⟩ := h
  have e4 : (" as " : Str).length = 4 := by decide
  rcases hd with ⟨n, rfl, ⟨m, rfl, hm⟩⟩ | ⟨a, b, n, rfl, ha, hb, hn⟩ | ⟨tm, n, rfl, htm, hn⟩
  · obtain ⟨t, x, y, rfl, ht, hx, hy⟩ := hv.tup2
    have ex := hx.strE
    have ey := hy.strE
    subst ex ey
    have e1 : (".*" : Str).length = 2 := by decide
    have hm9 := hm.1
    refine l_cons (s_if (t_eq (e_ixT (e_var 0 rfl (e_int ⟨t, _, 0, _, rfl, rfl, .inl (.inl ht), b0 _ _, e_str ⟨rfl, fun _ => ?_, fun e => by simp at e⟩⟩)))))
    exact l_one (s_ret (e_addS (e_ixT (e_var 0 rfl (e_int ⟨t, _, 1, _, rfl, rfl, .inl (.inl ht), b1 _ _, e_str ⟨_, _, rfl, rfl, line_ge (by omega), q _ (Same.refl _)⟩⟩)))))
  · obtain ⟨t, x, y, z, rfl, ht, hx, hy, hz⟩ := hv.tup3
    have ex := hx.strE
    subst ex
    refine l_cons (s_if (t_eq (e_ixT (e_var 0 rfl (e_int ⟨t, _, 0, _, rfl, rfl, .inl (.inl ht), c0 _ _ _, e_str ⟨rfl, fun e => absurd (V.str.inj (of_decide_eq_true e)) ne1, fun _ => l_nil ?_⟩⟩)))))
    obtain ⟨t2, x2, y2, rfl, ht2, hx2, hy2⟩ := hy.tup2
    have qd := dot_len ha hb
    have hc : okC (.tuple [a, b]) := ⟨a, b, rfl, ha, hb⟩
    obtain ⟨m, rfl, hm⟩ := hb
    obtain ⟨k, rfl, hk⟩ := hn
    have hk9 := hk.1
    have ey2 := hy2.strE
    have ez := hz.strE
    subst ey2 ez
    refine l_cons (s_if (t_w (w_and (t_eq (e_ixT (e_var 0 rfl (e_int ⟨t, _, 0, _, rfl, rfl, .inl (.inl ht), c0 _ _ _, e_str ⟨rfl, fun _ => ?_, fun e => by simp at e⟩⟩)))))))
    refine w_and1 (t_eq (e_ixT (e_ixT (e_var 0 rfl (e_int ⟨t, _, 1, _, rfl, rfl, .inl (.inl ht), c1 _ _ _, e_int ⟨t2, _, 1, _, rfl, rfl, .inl (.inl ht2), b1 _ _, e_ixT (e_var 0 rfl (e_int ⟨t, _, 2, _, rfl, rfl, .inl (.inl ht), c2 _ _ _, rfl, fun e => ?_, fun e => l_nil ?_⟩))⟩⟩)))))
    · have em : m = k := V.str.inj (of_decide_eq_true e)
      have er : toldT (.tuple [.str "column", .tuple [a, .str m], .str k]) = cellT (.tuple [a, .str m]) := if_pos em
      rw [er] at q
      exact l_one (s_ret (e_c cC hr (by decide) (a_cons (e_ixT (e_var 0 rfl (e_int ⟨t, _, 1, _, rfl, rfl, .inl (.inl ht), c1 _ _ _, a_nil ⟨_, _, rfl, hy, hc, q⟩⟩))))))
    · have em : ¬ m = k := fun z => by simp [z] at e
      have er : toldT (.tuple [.str "column", .tuple [a, .str m], .str k]) = dotT a (.str m) ++ (" as " : Str) ++ k := if_neg em
      rw [er] at q
      refine l_one (s_ret (e_addS (e_addS (e_c cT hr (by decide) (a_cons (e_ixT (e_var 0 rfl (e_int ⟨t, _, 1, _, rfl, rfl, .inl (.inl ht), c1 _ _ _, a_nil ⟨_, _, rfl, hy, .inr (.inl hc), fun H1 s1 => ?_⟩⟩))))))))
      refine e_str ⟨dotT a (.str m), _, rfl, rfl, line_ge (by omega), e_ixT (e_var 0 rfl (e_int ⟨t, _, 2, _, rfl, rfl, .inl (.inl (s1 _ _ ht)), c2 _ _ _, _, _, rfl, rfl, ?_, q _ s1⟩))⟩
      rw [cat_len]
      exact line_ge (by omega)
  · obtain ⟨t, x, y, z, rfl, ht, hx, hy, hz⟩ := hv.tup3
    have ex := hx.strE
    subst ex
    have tl := term_len 3 (okTm_of htm)
    have : lenB 3 = 432 := by decide
    have er : toldT (.tuple [.str "term", tm, n]) = termT 3 tm ++ (" as " : Str) ++ sv n := by
      rcases htm with ⟨z, rfl, _⟩ | ⟨s, m, ts, rfl, _⟩ <;> rfl
    rw [er] at q
    obtain ⟨k, rfl, hk⟩ := hn
    have hk9 := hk.1
    have ez := hz.strE
    subst ez
    refine l_cons (s_if (t_eq (e_ixT (e_var 0 rfl (e_int ⟨t, _, 0, _, rfl, rfl, .inl (.inl ht), c0 _ _ _, e_str ⟨rfl, fun e => absurd (V.str.inj (of_decide_eq_true e)) ne2, fun _ => l_nil ?_⟩⟩)))))
    refine l_cons (s_if (t_w (w_and (t_eq (e_ixT (e_var 0 rfl (e_int ⟨t, _, 0, _, rfl, rfl, .inl (.inl ht), c0 _ _ _, e_str ⟨rfl, fun e => absurd (V.str.inj (of_decide_eq_true e)) ne3, fun _ => ⟨fun e => Bool.noConfusion e, fun _ => l_nil ?_⟩⟩⟩)))))))
    refine l_one (s_ret (e_addS (e_addS (e_c cT hr (by decide) (a_cons (e_ixT (e_var 0 rfl (e_int ⟨t, _, 1, _, rfl, rfl, .inl (.inl ht), c1 _ _ _, a_nil ⟨_, _, rfl, hy, okTm_of htm, fun H1 s1 => ?_⟩⟩))))))))
    refine e_str ⟨termT 3 tm, _, rfl, rfl, line_ge (by omega), e_ixT (e_var 0 rfl (e_int ⟨t, _, 2, _, rfl, rfl, .inl (.inl (s1 _ _ ht)), c2 _ _ _, _, _, rfl, rfl, ?_, q _ s1⟩))⟩
    rw [cat_len]
    exact line_ge (by omega)
theorem scAskT : FnScope ["_law_one", "_law_worth"] ["_law_one"] (defScope sAskT) := ⟨rfl, rfl, rfl, by decide +kernel, rfl, by decide +kernel, by decide +kernel⟩
theorem ok_askT {f : Addr} {fd : FuncData} (F : Fun K "_law_ask_text" "_law_ask_text" sAskT f fd) (cC : CalN P w K mg base 1 "_law_cell_text" (spT okC cellT)) : FnOk P w K mg base CX0 2 f fd ["_law_one"] (spT okCond condT) := by
  refine Fun.okW F scAskT (fun vs H Q E h => by obtain ⟨v, d, rfl, _⟩ := h; rfl) (fun cdv B out s H vs Q E hr h => ?_)
  obtain ⟨v, d, rfl, hv, hd, q⟩ := h
  rcases hd with ⟨a, b, rfl, ha, hb⟩ | ⟨a, ds, rfl, ha, hl, hds⟩
  · obtain ⟨t, x, y, z, rfl, ht, hx, hy, hz⟩ := hv.tup3
    have ex := hx.strE
    subst ex
    rw [cond_eq a b hb] at q
    have la := cell_len ha
    have lb := cell_len hb
    have e1 : (" = " : Str).length = 3 := by decide
    refine l_cons (s_if (t_eq (e_ixT (e_var 0 rfl (e_int ⟨t, _, 0, _, rfl, rfl, .inl (.inl ht), c0 _ _ _, e_str ⟨rfl, fun _ => ?_, fun e => by simp at e⟩⟩)))))
    refine l_one (s_ret (e_addS (e_addS (e_c cC hr (by decide) (a_cons (e_ixT (e_var 0 rfl (e_int ⟨t, _, 1, _, rfl, rfl, .inl (.inl ht), c1 _ _ _, a_nil ⟨y, a, rfl, hy, ha, fun H1 s1 => ?_⟩⟩))))))))
    refine e_str ⟨_, _, rfl, rfl, line_ge (by omega), e_c cC hr (by decide) (a_cons (e_ixT (e_var 0 rfl (e_int ⟨t, _, 2, _, rfl, rfl, .inl (.inl (s1 _ _ ht)), c2 _ _ _, a_nil ⟨z, b, rfl, hz.mono (My.Same.tups s1), hb, fun H2 s2 => ?_⟩⟩))))⟩
    refine ⟨_, _, rfl, rfl, ?_, q _ (s1.trans s2)⟩
    rw [cat_len]
    exact line_ge (by omega)
  · obtain ⟨t, x, y, z, rfl, ht, hx, hy, hz⟩ := hv.tup3
    have ex := hx.strE
    subst ex
    rw [cond_in] at q
    have la := cell_len ha
    have lv := vals_len hl hds
    unfold valsT at lv q
    rw [cat_len, cat_len] at lv
    have e1 : (" in (" : Str).length = 5 := by decide
    have e2 : ("(" : Str).length = 1 := by decide
    have e3 : (")" : Str).length = 1 := by decide
    have e0 : ("'" : Str).length = 1 := by decide
    have ec : (" in (" : Str) = (" in " : Str) ++ ("(" : Str) := by decide +kernel
    refine l_cons (s_if (t_eq (e_ixT (e_var 0 rfl (e_int ⟨t, _, 0, _, rfl, rfl, .inl (.inl ht), c0 _ _ _, e_str ⟨rfl, fun e => absurd (V.str.inj (of_decide_eq_true e)) ne4, fun _ => l_nil ?_⟩⟩)))))
    refine l_one (s_ret (e_addS (e_addS (e_addS (e_c cC hr (by decide) (a_cons (e_ixT (e_var 0 rfl (e_int ⟨t, _, 1, _, rfl, rfl, .inl (.inl ht), c1 _ _ _, a_nil ⟨y, a, rfl, hy, ha, fun H1 s1 => ?_⟩⟩)))))))))
    refine e_str ⟨_, _, rfl, rfl, line_ge (by omega), ?_⟩
    refine e_joinT 1 (fun d => quoT (sv d)) okN 11 scAskT.nd (blkOk_by (N := ["_law_one", "_law_worth"]) (sc := defScope sAskT) (by decide +kernel)) (e_str ⟨_, rfl, by decide, e_ixT (e_var 0 rfl (e_int ⟨t, _, 2, _, rfl, rfl, .inl (.inl (s1 _ _ ht)), c2 _ _ _, ds, hz.mono (My.Same.tups s1), by omega, fun d h => ⟨hds d h, quo_len (sv_len (hds d h))⟩, by omega, ?_, fun H2 s2 => ?_⟩))⟩) (fun _ _ _ _ _ => pg_name (i := 1) scAskT.nd rfl (Or.inl rfl))
    · intro d u' H2 okd hud s0 H0 C cl fp
      obtain ⟨m, rfl, hm9, _⟩ := okd
      have eu := hud.strE
      subst eu
      refine e_addS (e_addS (e_str (e_var 1 rfl ⟨_, _, rfl, rfl, line_ge (by omega), e_str ⟨_, _, rfl, rfl, ?_, rfl, Same.refl _⟩⟩)))
      rw [cat_len]
      exact line_ge (by omega)
    · refine ⟨_, _, rfl, rfl, ?_, e_str ⟨_, _, rfl, rfl, ?_, ?_⟩⟩
      · rw [cat_len]
        exact line_ge (by omega)
      · rw [cat_len, cat_len]
        exact line_ge (by omega)
      · have q' := q _ (s1.trans s2)
        rw [ec]
        simp only [str_assoc] at q' ⊢
        exact q'
theorem scOrgT : FnScope ["_law_one"] ["_law_one"] (defScope sOrgT) := ⟨rfl, rfl, rfl, by decide +kernel, rfl, by decide +kernel, by decide +kernel⟩
theorem cut2 (x y z : V) : cutV [x, y, z] none (some 2) = [x, y] := rfl
theorem ok_orgT {f : Addr} {fd : FuncData} (F : Fun K "_law_origin_text" "_law_origin_text" sOrgT f fd) (cC : CalN P w K mg base 1 "_law_cell_text" (spT okC cellT)) : FnOk P w K mg base CX0 2 f fd ["_law_one"] (spT okSrc srcT) := by
  refine Fun.okW F scOrgT (fun vs H Q E h => by obtain ⟨v, d, rfl, _⟩ := h; rfl) (fun cdv B out s H vs Q E hr h => ?_)
  obtain ⟨v, d, rfl, hv, ⟨sc, n, l, rfl, hs, hn, hl⟩, q⟩ := h
  obtain ⟨t, x, y, z, rfl, ht, hx, hy, hz⟩ := hv.tup3
  have qd := dot_len hs hn
  have hc : okC (.tuple [sc, n]) := ⟨sc, n, rfl, hs, hn⟩
  obtain ⟨m, rfl, hm⟩ := hn
  obtain ⟨k, rfl, hk⟩ := hl
  have ey := hy.strE
  have ez := hz.strE
  subst ey ez
  have hk9 := hk.1
  have e1 : (" " : Str).length = 1 := by decide
  refine l_one (s_ret (e_addS (e_c cC hr (by decide) (a_cons (e_slT (e_var 0 rfl (e_int ⟨2, t, _, rfl, rfl, .inl (.inl ht), (by show ¬ (HT.sIx 3 0 none = 0 ∧ HT.sIx 3 3 (some 2) = 3); decide), fun p hp => ?_⟩)))))))
  rw [cut2]
  have sp := same_new (o := .tup [x, .str m]) hp
  refine a_nil ⟨_, _, rfl, .tup upd_same (.cons (hx.mono (My.Same.tups sp)) (.cons (.str m) .nil)), hc, fun H1 s1 => ?_⟩
  have s01 := sp.trans s1
  have ht1 := s01 _ _ ht
  refine e_if (t_eq (e_ixT (e_var 0 rfl (e_int ⟨t, _, 1, _, rfl, rfl, .inl (.inl ht1), c1 _ _ _, e_ixT (e_var 0 rfl (e_int ⟨t, _, 2, _, rfl, rfl, .inl (.inl ht1), c2 _ _ _, rfl, fun e => ?_, fun e => ?_⟩))⟩))))
  · have em : k = m := (V.str.inj (of_decide_eq_true e)).symm
    have er : srcT (.tuple [sc, .str m, .str k]) = dotT sc (.str m) := if_pos em
    rw [er] at q
    refine e_str ⟨dotT sc (.str m), _, rfl, rfl, line_ge (by show _ + 0 ≤ _; omega), ?_⟩
    have ez : dotT sc (.str m) ++ ("" : Str) = dotT sc (.str m) := empty_cat _
    rw [ez]
    exact q _ s01
  · have em : ¬ k = m := fun z => by simp [z] at e
    have er : srcT (.tuple [sc, .str m, .str k]) = dotT sc (.str m) ++ (" " : Str) ++ k := if_neg em
    rw [er, str_assoc] at q
    refine e_addS (e_str (e_ixT (e_var 0 rfl (e_int ⟨t, _, 2, _, rfl, rfl, .inl (.inl ht1), c2 _ _ _, _, _, rfl, rfl, line_ge (by omega), dotT sc (.str m), _, rfl, rfl, ?_, q _ s01⟩))))
    rw [cat_len]
    exact line_ge (by omega)
end
end K10

namespace K10
open PySem PySem.Spec PyProof.Rows L2 My
theorem mul0 (z : Str) : Txt.mul z 0 = Str.empty := rfl
theorem mul1 (z : Str) : Txt.mul z 1 = z := rfl
theorem mok (z : Str) {n : Int} (h : n = 0 ∨ n = 1) : PySem.MulOk z n := by
  rcases h with rfl | rfl
  · exact ⟨by decide, fun h => absurd (by decide) h, fun h => absurd (by decide) h⟩
  · exact ⟨by decide, fun _ h => by simp at h, fun _ h => by simp at h⟩
section
variable {P : Program} {w : World} {K : PySem.W.Frag} {mg : Str → Option Value} {base : Heap}
theorem scText : FnScope ["_law_statement_here", "_law_is_distinct", "_law_told", "_law_sources_here", "_law_asks_here", "_law_text_here", "_law_one"] ["_law_statement_here"] (defScope sText) := ⟨rfl, rfl, rfl, by decide +kernel, rfl, by decide +kernel, by decide +kernel⟩
theorem bokT : ∀ {sc : Scope}, blkC ["_law_statement_here", "_law_is_distinct", "_law_told", "_law_sources_here", "_law_asks_here", "_law_text_here", "_law_one"] (defScope sText) sc [("_law_one", 6)] = true → BlkOk ["_law_statement_here", "_law_is_distinct", "_law_told", "_law_sources_here", "_law_asks_here", "_law_text_here", "_law_one"] (defScope sText) sc [("_law_one", 6)] := fun h => blkOk_by h
theorem ok_text {f : Addr} {fd : FuncData} (F : Fun K "_law_text" "_law_text" sText f fd) (G : Bm mg) (cT : CalN P w K mg base 6 "_law_told_text" (spT okTold toldT)) (cS : CalN P w K mg base 2 "_law_origin_text" (spT okSrc srcT)) (cC : CalN P w K mg base 2 "_law_ask_text" (spT okCond condT)) : FnOk P w K mg base CX0 7 f fd ["_law_statement_here"] (spT okSt writeT) := by
  refine Fun.okW F scText (fun vs H Q E h => by obtain ⟨v, d, rfl, _⟩ := h; rfl) (fun cdv B out s H vs Q E hr h => ?_)
  obtain ⟨v, d, rfl, hv, ⟨b, ts, ss, cs, rfl, ht, hs, hc⟩, q⟩ := h
  obtain ⟨t, x1, x2, x3, x4, rfl, h0, h1, h2, h3, h4⟩ := hv.tup4
  have e1 := h1.blE
  subst e1
  have jt := join8 (sep := (", " : Str)) (f := toldT) (B := 1000) ht (by decide) fun d h => told_len h
  have js := join8 (sep := (", " : Str)) (f := srcT) (B := 100) hs (by decide) fun d h => src_len h
  have jc := join8 (sep := (" and " : Str)) (f := condT) (B := 300) hc (by decide) fun d h => cond_len h
  have sb := sel_len b
  have ef : (" from " : Str).length = 6 := by decide
  have ew : (" where " : Str).length = 7 := by decide
  have es : ("select " : Str) ++ Txt.mul ("distinct " : Str) (if b then 1 else 0) = selT b := by cases b <;> decide +kernel
  have lm : ("select " : Str).length + (Txt.mul ("distinct " : Str) (if b then 1 else 0)).length ≤ 20 := by rw [← cat_len, es]; exact sb
  refine l_cons (s_asg (pg_tup rfl (pgs_cons (pg_name (i := 1) scText.nd rfl (.inl rfl)) (pgs_cons (pg_name (i := 2) scText.nd rfl (.inl rfl)) (pgs_cons (pg_name (i := 3) scText.nd rfl (.inl rfl)) (pgs_cons (pg_name (i := 4) scText.nd rfl (.inl rfl)) pgs_nil))))) (e_var 0 rfl ⟨t, _, rfl, .inl (.inl h0), rfl, _, _, rfl, _, _, rfl, _, _, rfl, _, _, rfl, rfl, ?_⟩))
  refine l_cons (s_set 5 (e_addS (e_addS (e_str (e_op mul_sk (e_str (e_intI G.int (e_var 1 rfl (.inr ⟨b, rfl, _, _, rfl, rfl, mok _ (by cases b <;> decide), _, _, rfl, rfl, line_ge (by omega), ?_⟩)))))))) scText.nd)
  rw [es]
  refine e_joinT 6 toldT okTold 1000 scText.nd (bokT (by decide +kernel)) (e_str ⟨_, rfl, by decide, e_var 2 rfl ⟨ts, h2, by have := ht.1; omega, fun d h => ⟨ht.2 d h, told_len (ht.2 d h)⟩, by omega, ?_, fun H1 s1 => ?_⟩⟩) (fun _ _ _ _ _ => pg_name (i := 6) scText.nd rfl (Or.inl rfl))
  · intro d u' H2 okd hud s0 H0 C cl fp
    exact e_c cT hr (Nat.le_refl _) (a_cons (e_var 6 rfl (a_nil ⟨u', d, rfl, hud, okd, fun H3 s3 => ⟨rfl, s3⟩⟩)))
  refine ⟨_, _, rfl, rfl, line_ge (by omega), ?_⟩
  refine l_cons (s_set 5 (e_addS (e_addS (e_var 5 rfl (e_str ⟨_, _, rfl, rfl, line_ge (by rw [cat_len]; omega), ?_⟩)))) scText.nd)
  refine e_joinT 6 srcT okSrc 100 scText.nd (bokT (by decide +kernel)) (e_str ⟨_, rfl, by decide, e_var 3 rfl ⟨ss, h3.mono (My.Same.tups s1), by have := hs.1; omega, fun d h => ⟨hs.2 d h, src_len (hs.2 d h)⟩, by omega, ?_, fun H2 s2 => ?_⟩⟩) (fun _ _ _ _ _ => pg_name (i := 6) scText.nd rfl (Or.inl rfl))
  · intro d u' H2 okd hud s0 H0 C cl fp
    exact e_c cS hr (by decide) (a_cons (e_var 6 rfl (a_nil ⟨u', d, rfl, hud, okd, fun H3 s3 => ⟨rfl, s3⟩⟩)))
  refine ⟨_, _, rfl, rfl, line_ge (by rw [cat_len, cat_len]; omega), ?_⟩
  have s02 := s1.trans s2
  obtain ⟨tc, xc, rfl, hc0, hcs⟩ := (h4.mono (My.Same.tups s02)).tupE
  -- ' where ' * int(asks != ())
  refine l_one (s_ret (e_addS (e_addS (e_var 5 rfl (e_op mul_sk (e_str (e_intI G.int (e_cmp (op_neD hr.units) (e_var 4 rfl (e_tup (a_nil ⟨Nat.zero_le _, fun p hp => ?_⟩)))))))))))
  have s3 := same_new (o := .tup []) hp
  have hcd : DT (upd _ p (.tup [])) (.ref tc) (.tuple cs) := (h4.mono (My.Same.tups s02)).mono (My.Same.tups s3)
  refine ⟨.tuple cs, .tuple [], hcd.dp, (DT.tup upd_same .nil).dp, ?_, rfl, .inr ⟨!PyData.eqv (.tuple cs) (.tuple []), rfl, ?_⟩⟩
  · exact (fineL hc fun d h => fineCond h).shaped (by decide)
  have ee : PyData.eqv (.tuple cs) (.tuple []) = cs.isEmpty := by cases cs <;> rfl
  rw [ee]
  refine ⟨_, _, rfl, rfl, mok _ (by cases cs.isEmpty <;> decide), _, _, rfl, rfl, line_ge ?_, ?_⟩
  · rw [cat_len, cat_len, cat_len]
    have : (Txt.mul (" where " : Str) (if (!cs.isEmpty) = true then 1 else 0)).length ≤ 7 := by cases cs.isEmpty <;> decide
    omega
  refine e_joinT 6 condT okCond 300 scText.nd (bokT (by decide +kernel)) (e_str ⟨_, rfl, by decide, e_var 4 rfl ⟨cs, hcd, by have := hc.1; omega, fun d h => ⟨hc.2 d h, cond_len (hc.2 d h)⟩, by omega, ?_, fun H4 s4 => ?_⟩⟩) (fun _ _ _ _ _ => pg_name (i := 6) scText.nd rfl (Or.inl rfl))
  · intro d u' H2 okd hud s0 H0 C cl fp
    exact e_c cC hr (by decide) (a_cons (e_var 6 rfl (a_nil ⟨u', d, rfl, hud, okd, fun H3 s3 => ⟨rfl, s3⟩⟩)))
  have q' := q H4 ((s02.trans s3).trans s4)
  have ew2 : writeT (.tuple [.bool b, .tuple ts, .tuple ss, .tuple cs]) = selT b ++ Txt.join (", " : Str) (ts.map toldT) ++ ((" from " : Str) ++ Txt.join (", " : Str) (ss.map srcT)) ++ whereT cs := rfl
  rw [ew2] at q'
  refine ⟨_, _, rfl, rfl, line_ge ?_, ?_⟩
  · rw [cat_len, cat_len, cat_len, cat_len]
    have : (Txt.mul (" where " : Str) (if (!cs.isEmpty) = true then 1 else 0)).length ≤ 7 := by cases cs.isEmpty <;> decide
    omega
  · have e3 : whereT cs = Txt.mul (" where " : Str) (if (!cs.isEmpty) = true then 1 else 0) ++ Txt.join (" and " : Str) (cs.map condT) := by
      cases cs with
      | nil => decide +kernel
      | cons c cs => rfl
    rw [e3] at q'
    simp only [str_assoc] at q' ⊢
    exact q'
end
end K10

namespace K10
open PySem PySem.Spec PyProof.Rows L2 My
abbrev sSome : Stmt := top 13
abbrev sWorths : Stmt := top 14
abbrev sCell : Stmt := top 15
abbrev sLTerm : Stmt := top 16
abbrev sStatement : Stmt := top 17
structure Bn (mg : Str → Option Value) : Prop extends Bm mg where
  min : mg "min" = none
  range : mg "range" = none
  sorted : mg "sorted" = none
  tuple : mg "tuple" = none
  repr : mg "repr" = none
section
variable {X : Cx} {o e : Expr} {σ : L2.St} {H : Hp} {Q : VK} {D : Ends} {pos apos : Pos}
/-- o.pop(e), a list -/
theorem e_pop (h : WE X o σ H fun x H1 => (∃ l xs, x = .ref l ∧ SqL X.K H1 l xs) ∧ WE X e σ H1 fun y H2 => ∃ l xs i k z, x = .ref l ∧ y = .int i ∧ H2 l = some (.lst xs) ∧ -(2 ^ 63) ≤ i ∧ i < 2 ^ 63 ∧ seqIndex? i xs.length = some k ∧ xs[k]? = some z ∧ Q z (upd H2 l (.lst (xs.eraseIdx k))))
    (hbase : attributeBase o "pop" X.env (eval o X.env) = eval o X.env := by rfl)
    (hfew : ((backTo pos (starEach [e] X.env)).all (fun x => !x.1) && (backToKw pos (keywordEach [] X.env)).all (fun x => x.1.isSome) && decide ([e].length + ([] : List Keyword).length + (if ([] : List Keyword).isEmpty then 0 else 1) < 30)) = true := by rfl)
    (hline : (apos.endLine == pos.line) = true := by rfl) (hs : starEach [e] X.env = (false, eval e X.env) :: starEach [] X.env := by rfl) (hplain : (backTo pos (starEach [] X.env)).any (·.1) = false := by rfl) :
    WE X (.Call (.Attribute o "pop" apos) [e] [] pos) σ H Q :=
  toE (pe_bm PySem.F.plainAttrs_list PySem.F.slot_list_pop PySem.F.type_list_pop mt_popAt pE pA hbase hfew hline hs hplain) (WE.mono h fun x H1 ⟨⟨l, xs, e1, hS⟩, k⟩ => by
    subst e1
    exact ⟨.inl ⟨rfl, _, hS⟩, a_cons (WE.mono k fun y H2 ⟨l', xs', i, k', z, a1, a2, a3, a4, a5, a6, a7, q⟩ => a_nil ⟨l', xs', i, k', z, a1, by rw [a2], a3, a4, a5, a6, a7, q⟩) hs⟩)
/-- o.append(e) as a statement -/
theorem s_app (h : WE X o σ H fun x H1 => (∃ l xs, x = .ref l ∧ SqL X.K H1 l xs) ∧ WE X e σ H1 fun y H2 => ∃ l xs, x = .ref l ∧ H2 l = some (.lst xs) ∧ xs.length < sizeLine ∧ D.nx σ (upd H2 l (.lst (xs ++ [y])))) {pos' : Pos}
    (hbase : attributeBase o "append" X.env (eval o X.env) = eval o X.env := by rfl)
    (hfew : ((backTo pos (starEach [e] X.env)).all (fun x => !x.1) && (backToKw pos (keywordEach [] X.env)).all (fun x => x.1.isSome) && decide ([e].length + ([] : List Keyword).length + (if ([] : List Keyword).isEmpty then 0 else 1) < 30)) = true := by rfl)
    (hline : (apos.endLine == pos.line) = true := by rfl) (hs : starEach [e] X.env = (false, eval e X.env) :: starEach [] X.env := by rfl) (hplain : (backTo pos (starEach [] X.env)).any (·.1) = false := by rfl)
    (hsw : swapsWith (.Call (.Attribute o "append" apos) [e] [] pos) none pos'.line X.env = pure false := by rfl) :
    WS X (.Expr (.Call (.Attribute o "append" apos) [e] [] pos) pos') D σ H :=
  s_expr (toE (pe_bm PySem.F.plainAttrs_list PySem.F.slot_list_append PySem.F.type_list_append mt_append pE pA hbase hfew hline hs hplain) (WE.mono h fun x H1 ⟨⟨l, xs, e1, hS⟩, k⟩ => by
    subst e1
    exact ⟨.inl ⟨rfl, _, hS⟩, a_cons (WE.mono k fun y H2 ⟨l', xs', a1, a3, a4, q⟩ => a_nil ⟨l', xs', y, a1, rfl, a3, a4, q⟩) hs⟩)) hsw
/-- min(a, b) -/
theorem e_min {a b : Expr} {p : Pos} (hm : X.mg "min" = none) (k : WE X a σ H fun x H1 => WE X b σ H1 fun y H2 => ∃ i j, x = .int i ∧ y = .int j ∧ Q (.int (if j < i then j else i)) H2) (hc : X.calm = true := by rfl) (hg : Gl X "min" := by rfl)
    (he : starEach [a, b] X.env = (false, eval a X.env) :: starEach [b] X.env := by rfl) (he2 : starEach [b] X.env = (false, eval b X.env) :: starEach [] X.env := by rfl) (hpl : (backTo pos (starEach [b] X.env)).any (·.1) = false := by rfl) :
    WE X (.Call (.Name "min" p) [a, b] [] pos) σ H Q :=
  e_callB (call_min2 hc) hm PyProof.Rows.boot_min (a_cons (WE.mono k fun x H1 k1 => a_cons (WE.mono k1 fun y H2 ⟨i, j, e1, e2, q⟩ => a_nil ⟨i, j, by rw [e1, e2], q⟩) he2) he) hg (by decide) (by decide) he hpl
/-- sorted(e), a list of texts; tuple(e), a list -/
theorem e_sorted {p : Pos} (hm : X.mg "sorted" = none) (k : WE X e σ H fun x H1 => ∃ (a : Addr) (xs : List Str), x = V.ref a ∧ SqL X.K H1 a (xs.map V.str) ∧ xs.length < 64 ∧ ∀ (ys : List Str) (p : Addr), ys.Perm xs → sortedS ys = true → H1 p = none → Q (.ref p) (upd H1 p (.lst (ys.map V.str)))) (hg : Gl X "sorted" := by rfl)
    (he : starEach [e] X.env = (false, eval e X.env) :: starEach [] X.env := by rfl) (hpl : (backTo pos (starEach [] X.env)).any (·.1) = false := by rfl) : WE X (.Call (.Name "sorted" p) [e] [] pos) σ H Q :=
  e_callB cr_sortedS hm PyProof.Rows.boot_sorted (a_cons (WE.mono k fun x H1 ⟨a, xs, e1, r⟩ => a_nil ⟨a, xs, by rw [e1], r⟩) he) hg (by decide) (by decide) he hpl
theorem e_tupL {p : Pos} (hm : X.mg "tuple" = none) (k : WE X e σ H fun x H1 => ∃ a xs, x = .ref a ∧ SqL X.K H1 a xs ∧ ∀ q, H1 q = none → Q (.ref q) (upd H1 q (.tup xs))) (hg : Gl X "tuple" := by rfl)
    (he : starEach [e] X.env = (false, eval e X.env) :: starEach [] X.env := by rfl) (hpl : (backTo pos (starEach [] X.env)).any (·.1) = false := by rfl) : WE X (.Call (.Name "tuple" p) [e] [] pos) σ H Q :=
  e_callT call_tuple_of hm PyProof.Rows.boot_tuple (a_cons (WE.mono k fun x H1 ⟨a, xs, e1, hS, r⟩ => a_nil ⟨a, xs, by rw [e1], .inl ⟨hS, r⟩⟩) he) hg (by decide) (by decide) he hpl
theorem e_listL {p : Pos} (hm : X.mg "list" = none) (k : WE X e σ H fun x H1 => ∃ a xs, x = .ref a ∧ (SqL X.K H1 a xs ∨ SqT X.K H1 a xs) ∧ ∀ q, H1 q = none → Q (.ref q) (upd H1 q (.lst xs))) (hg : Gl X "list" := by rfl)
    (he : starEach [e] X.env = (false, eval e X.env) :: starEach [] X.env := by rfl) (hpl : (backTo pos (starEach [] X.env)).any (·.1) = false := by rfl) : WE X (.Call (.Name "list" p) [e] [] pos) σ H Q :=
  e_callT call_list_of hm PyProof.Rows.boot_list (a_cons (WE.mono k fun x H1 ⟨a, xs, e1, hS, r⟩ => a_nil ⟨a, xs, by rw [e1], hS, r⟩) he) hg (by decide) (by decide) he hpl
end
theorem erase_map : ∀ (ws : List Str) (k : Nat), (ws.map V.str).eraseIdx k = (ws.eraseIdx k).map V.str
  | [], _ => rfl
  | _ :: _, 0 => rfl
  | w :: ws, k + 1 => by show V.str w :: (ws.map V.str).eraseIdx k = V.str w :: (ws.eraseIdx k).map V.str; rw [erase_map ws k]
theorem But.lst {p l : Addr} {H H' : Hp} {xs : List V} (b : But p H H') (n : l ≠ p) (h : H l = some (.lst xs)) : H' l = some (.lst xs) := b l _ n h
theorem But.none {p a : Addr} {H H' : Hp} (b : But p H H') (n : a ≠ p) (h : H' a = none) : H a = none := b.free n h
theorem seq_nat {d n : Nat} (h : d < n) : seqIndex? (d : Int) n = some d := by
  rw [PySem.seqIndex_of (by omega) (by omega)]
  simp
def spSome (K : PySem.W.Frag) : Sp := fun vs H Q _ => ∃ (p L pool : Addr) (n most : Nat) (zs : List Str), vs = [.ref p, .ref pool, .int most] ∧ Pen H p L n ∧ n + 200 < 2 ^ 40 ∧ SqL K H pool (zs.map V.str) ∧ pool ≠ p ∧ zs.length ≤ 20 ∧ most ≤ 20 ∧
  ∀ (q : Addr) (ys : List Str) (H' : Hp), But p H H' → Pen H' p L (n + 100) → H q = none → H' q = some (.lst (ys.map V.str)) → ys.length ≤ most → (∀ y ∈ ys, y ∈ zs) → Q (.ref q) H'
theorem sqL_but {K : PySem.W.Frag} {p l : Addr} {H H' : Hp} {xs : List V} (b : But p H H') (n : l ≠ p) (h : SqL K H l xs) : SqL K H' l xs := by
  rcases h with (h | ⟨o, h⟩) | h
  · exact .inl (.inl (b _ _ n h))
  · exact .inl (.inr ⟨o, b _ _ n h⟩)
  · exact .inr h
section
variable {P : Program} {w : World} {K : PySem.W.Frag} {mg : Str → Option Value} {base : Heap}
theorem scSome : FnScope ["_law_pen_here", "_law_pool", "_law_most", "_law_rest", "_law_turn"] ["_law_pen_here", "_law_pool", "_law_most"] (defScope sSome) := ⟨rfl, rfl, rfl, by decide +kernel, rfl, by decide +kernel, by decide +kernel⟩
theorem ok_some {f : Addr} {fd : FuncData} (F : Fun K "_law_some" "_law_some" sSome f fd) (G : Bn mg) (cD : CalN P w K mg base 2 "_law_draw" spDraw) : FnOk P w K mg base CX0 3 f fd ["_law_pen_here", "_law_pool", "_law_most"] (spSome K) := by
  refine Fun.okW F scSome (fun vs H Q E h => by obtain ⟨a, b, c, d, e, g, rfl, _⟩ := h; rfl) (fun cdv B out s H vs Q E hr h => ?_)
  obtain ⟨p, L, pool, n, most, zs, rfl, Pn, hn, hS, npp, hz, hm, q⟩ := h
  refine l_cons (s_set 3 (e_listL G.list (e_var 1 rfl ⟨pool, _, rfl, .inl hS, fun r hr0 => ?_⟩)) scSome.nd)
  have nrp : r ≠ p := Pn.newP hr0
  have nrL : r ≠ L := Pn.newL hr0
  have s1 := same_new (o := .lst (zs.map V.str)) hr0
  have P1 := Pn.same s1
  have r1 : (upd H r (.lst (zs.map V.str))) r = some (.lst (zs.map V.str)) := upd_same
  generalize hH1 : upd H r (.lst (zs.map V.str)) = H1 at s1 P1 r1
  refine l_one (s_ret (e_lcR 4 G.range scSome.nd (blkOk_by (N := ["_law_pen_here", "_law_pool", "_law_most", "_law_rest", "_law_turn"]) (sc := defScope sSome) (by decide +kernel)) (e_c cD hr (by decide) (a_cons (e_var 0 rfl (a_cons (e_addI (e_min G.min (e_var 2 rfl (e_len G.len (e_var 3 rfl ⟨r, _, rfl, .inl (.inl (.inl r1)), most, _, rfl, rfl, ?_⟩)))))))) ) (fun _ _ _ _ _ => pg_name (i := 4) scSome.nd rfl (Or.inl rfl))))
  rw [List.length_map]
  generalize hk : (if (zs.length : Int) < (most : Int) then (zs.length : Int) else (most : Int)) = kk
  have k0 : 0 ≤ kk ∧ kk ≤ most ∧ kk ≤ zs.length := by rw [← hk]; split <;> omega
  refine e_int ⟨kk, 1, rfl, rfl, a_nil ⟨p, L, n, kk + 1, rfl, P1, by omega, by omega, by omega, fun d H2 b2 P2 hd => ⟨d, rfl, by omega, fun D nD => ?_⟩⟩⟩
  have r2 := b2 _ _ nrp r1
  have nDp : D ≠ p := P2.newP nD
  have nDL : D ≠ L := P2.newL nD
  have nDr : D ≠ r := (ne_of_none r2 nD).symm
  refine ⟨fun i H3 => ∃ ws ys : List Str, (∀ b o, b ≠ p → b ≠ r → H1 b = some o → H3 b = some o) ∧ Pen H3 p L (n + 1 + i) ∧ H3 r = some (.lst (ws.map V.str)) ∧ H3 D = some (.lst (ys.map V.str)) ∧ ws.length + i = zs.length ∧ ys.length = i ∧ (∀ y ∈ ws, y ∈ zs) ∧ ∀ y ∈ ys, y ∈ zs, ?_, ?_, ?_⟩
  · refine ⟨zs, [], fun b o nb _ h => same_mut (Same.refl H2) nD b o (b2 b o nb h), P2.same (same_new nD), by rw [upd_ne nDr.symm]; exact r2, upd_same, by omega, rfl, fun y h => h, fun y h => by cases h⟩
  · rintro i H3 hi ⟨ws, ys, k1, k2, k3, k4, k5, k6, k7, k8⟩ s0 H00 C cl fp
    have hw : 0 < ws.length := by omega
    refine e_pop (e_var 3 rfl ⟨⟨r, _, rfl, .inl (.inl k3)⟩, e_c cD hr (by decide) (a_cons (e_var 0 rfl (a_cons (e_len G.len (e_var 3 rfl ⟨r, _, rfl, .inl (.inl (.inl k3)), a_nil ⟨p, L, n + 1 + i, _, rfl, k2, by omega, ?_, ?_, fun d' H4 b4 P4 hd' => ?_⟩⟩)))))⟩)
    · rw [List.length_map]; omega
    · rw [List.length_map]; omega
    rw [List.length_map] at hd'
    have hd2 : d' < ws.length := by omega
    have r4 := b4 _ _ nrp k3
    have d4 := b4 _ _ nDp k4
    refine ⟨r, _, d', d', .str ws[d'], rfl, rfl, r4, by omega, by omega, seq_nat (by rw [List.length_map]; exact hd2), by rw [List.getElem?_map, List.getElem?_eq_getElem hd2]; rfl, ?_⟩
    have g4 : (upd H4 r (.lst ((ws.map V.str).eraseIdx d'))) D = some (.lst (ys.map V.str)) := by rw [upd_ne nDr]; exact d4
    refine ⟨_, g4, ?_, ws.eraseIdx d', ys ++ [ws[d']], fun b o nb nr h => ?_, ?_, ?_, ?_, ?_, ?_, ?_, ?_⟩
    · rw [List.length_map, k6]
      exact Nat.lt_of_lt_of_le (show i < 100 by omega) (by decide)
    · have nbD : b ≠ D := fun e => by
        subst e
        have := But.none b2 nDp nD
        rw [this] at h
        cases h
      rw [upd_ne nbD, upd_ne nr]
      exact b4 b o nb (k1 b o nb nr h)
    · exact (P4.upd nrp nrL).upd nDp nDL
    · rw [upd_ne nDr.symm, upd_same, erase_map]
    · rw [upd_same, List.map_append]
      rfl
    · rw [List.length_eraseIdx_of_lt hd2]; omega
    · rw [List.length_append, k6]; rfl
    · exact fun y h => k7 y (List.mem_of_mem_eraseIdx h)
    · intro y h
      rcases List.mem_append.mp h with h | h
      · exact k8 y h
      · have e : y = ws[d'] := by simpa using h
        rw [e]
        exact k7 _ (List.getElem_mem hd2)
  · rintro H3 ⟨ws, ys, k1, k2, k3, k4, k5, k6, k7, k8⟩
    refine q D ys H3 (fun b o nb h => k1 b o nb (ne_of_none h hr0) (s1 b o h)) (Pen.mono k2 (by omega)) ?_ k4 (by omega) k8
    exact s1.free (But.none b2 nDp nD)
end
end K10

namespace K10
open PySem PySem.Spec PyProof.Rows L2 My
section
variable {X : Cx} {σ : L2.St} {H : Hp} {D : Ends} {pos spos py : Pos} {elt tg iter : Expr} {scope : Scope} {x y : Str}
/-- y = [elt for x in range(a)] as a statement -/
theorem s_lcR {a : Expr} {p pc pt : Pos} (i j : Nat) (hm : X.mg "range" = none) (hN : X.N.Nodup) (ok : BlkOk X.N X.env.scope scope [(x, j)])
    (h : WE X a σ H fun v H1 => ∃ n : Nat, v = .int n ∧ n < 2 ^ 62 ∧ ∀ Dn, H1 Dn = none → ∃ Pv : Nat → Hp → Prop, Pv 0 (upd H1 Dn (.lst [])) ∧
      (∀ i H, i < n → Pv i H → WB X scope elt ((wipe σ [j]).set j (some (.int i))) H fun z H4 => ∃ acc, H4 Dn = some (.lst acc) ∧ acc.length < sizeLine ∧ Pv (i + 1) (upd H4 Dn (.lst (acc ++ [z])))) ∧
      ∀ H, Pv n H → D.nx (σ.set i (some (.ref Dn))) H)
    (hg : ∀ (s : Shared) (H : Hp) (C : Addr) (cl : List (Str × Addr)) (fp : List Addr), PG (X.blk s H scope (compEnvC scope cl C X.env) fp) (.Name x pt) (gName j))
    (hsw : swapsWith (.ListComp elt [⟨.Name x pt, .Call (.Name "range" p) [a] [] pc, [], 0⟩] scope pos) (some (.Name y py)) spos.line X.env = pure true)
    (hy : X.N[i]? = some y := by rfl) (hyl : X.env.scope.names.lookup y = some .local := by rfl)
    (hgl : Gl X "range" := by rfl) (hst : starEach [a] X.env = [(false, eval a X.env)] := by rfl)
    (hc : X.calm = true := by rfl) (hs : ∀ z, foldedSetIterable (.Call (.Name "range" p) [a] [] pc) X.env z = pure z := by intro _; rfl) :
    WS X (.Assign [.Name y py] (.ListComp elt [⟨.Name x pt, .Call (.Name "range" p) [a] [] pc, [], 0⟩] scope pos) spos) D σ H :=
  toS (ps_setLc (own := [(x, j)]) (te := WB X scope elt) hc hN hy hyl hsw (pi_range1 hgl hm (pA (es := [a])) hst) ok hg (fun _ _ _ _ _ => pts_nil) (fun s H0 C cl fp => ⟨fun pins s' σ' H' Q' I q => q s H0 C cl fp pins s' I⟩) hs)
    (a_cons (WE.mono h fun v H1 ⟨n, e, hn, k⟩ => a_nil ⟨(n : Int), by rw [e], by omega, by omega, fun Dn nD => by
      obtain ⟨Pv, p0, ps, pd⟩ := k Dn nD
      have en : ((n : Int)).toNat = n := by omega
      rw [en]
      refine lc_range (g := gName j) (tt := tYes) (te := WB X scope elt) (vs := [j]) (σ := σ) Pv p0 (fun i H hi p => ⟨set_wipe σ j _, ?_⟩) pd
      have e0 : (0 : Int) + (i : Int) = (i : Int) := Int.zero_add _
      rw [e0]
      exact ps i H hi p⟩) (by rw [hst]; rfl))
end
def nmB (z : Str) : Bool := decide (z.length ≤ 9) && z.cps.toList.all fun c => decide (c < 128)
theorem nm_of {z : Str} (h : nmB z = true) : nm z := by
  unfold nmB at h
  simp only [Bool.and_eq_true, decide_eq_true_eq] at h
  exact h
theorem nms_of {zs : List Str} (h : zs.all nmB = true) : ∀ z ∈ zs, nm z := fun z hz => nm_of (List.all_eq_true.mp h z hz)
theorem at_map {zs : List Str} {d : Nat} (h : d < zs.length) : atI (zs.map V.str) (d : Int) = some (.str zs[d]) := atI_nat (by rw [List.getElem?_map, List.getElem?_eq_getElem h]; rfl)
def spWorths : Sp := fun vs H Q _ => ∃ (p L : Addr) (n : Nat), vs = [.ref p] ∧ Pen H p L n ∧ n + 300 < 2 ^ 40 ∧ ∀ (v : V) (ds : List PyData) (H' : Hp), But p H H' → Pen H' p L (n + 100) → DT H' v (.tuple ds) → ds.length ≤ 8 → (∀ d ∈ ds, okN d) → Q v H'
def spCell (K : PySem.W.Frag) : Sp := fun vs H Q _ => ∃ (p L lb : Addr) (n : Nat) (zs : List Str), vs = [.ref p, .ref lb] ∧ Pen H p L n ∧ n + 300 < 2 ^ 40 ∧ SqL K H lb (zs.map V.str) ∧ lb ≠ p ∧ 0 < zs.length ∧ zs.length ≤ 100 ∧ (∀ z ∈ zs, nm z) ∧
  ∀ (v : V) (d : PyData) (H' : Hp), But p H H' → Pen H' p L (n + 3) → DT H' v d → okC d → Q v H'
def penC : Nat → Nat
  | 0 => 4
  | k + 1 => 2 * penC k + 8
def spLTerm (K : PySem.W.Frag) (k : Nat) : Sp := fun vs H Q _ => ∃ (p L lb : Addr) (n : Nat) (zs : List Str) (b : Bool), vs = [.ref p, .ref lb, .int k, .bl b] ∧ Pen H p L n ∧ n + penC k + 400 < 2 ^ 40 ∧ SqL K H lb (zs.map V.str) ∧ lb ≠ p ∧ 0 < zs.length ∧ zs.length ≤ 100 ∧ (∀ z ∈ zs, nm z) ∧
  ∀ (v : V) (d : PyData) (H' : Hp), But p H H' → Pen H' p L (n + penC k) → DT H' v d → okTm k d → Q v H'
theorem perm_mem {ys xs : List Str} (h : ys.Perm xs) {y : Str} (k : y ∈ ys) : y ∈ xs := h.mem_iff.mp k
theorem dp_strs {K : PySem.W.Frag} {H : Hp} : ∀ zs : List Str, DpAll K H (zs.map V.str) (zs.map PyData.str)
  | [] => .nil
  | z :: zs => .cons (.str z) (dp_strs zs)
theorem shaped_strs {zs : List Str} (h : ∀ z ∈ zs, nm z) : SeqAt.shaped (.list (zs.map PyData.str)) = true := by
  have h1 : ∀ ms : List Str, (∀ z ∈ ms, nm z) → PyData.canLayAll0 (ms.map PyData.str) = true := fun ms => by
    induction ms with
    | nil => intro _; rfl
    | cons m ms ih =>
      intro k
      show ((m.cps.all (· < 0x110000)) && PyData.canLayAll0 (ms.map PyData.str)) = true
      rw [ih fun z hz => k z (List.mem_cons_of_mem _ hz), ← Array.all_toList]
      have q := (k m List.mem_cons_self).2
      rw [Bool.and_true, List.all_eq_true]
      exact fun c hc => decide_eq_true (by have := of_decide_eq_true (List.all_eq_true.mp q c hc); omega)
  have h2 : ∀ ms : List Str, PyData.depthAll (ms.map PyData.str) = 0 := fun ms => by
    induction ms with
    | nil => rfl
    | cons m ms ih => show max 0 (PyData.depthAll (ms.map PyData.str)) = 0; rw [ih]; rfl
  show (PyData.canLayAll0 (zs.map PyData.str) && decide (PyData.depthAll (zs.map PyData.str) + 1 ≤ 64)) = true
  rw [h1 zs h, h2]
  rfl
theorem str_eta : ([V.str "a", V.str "b", V.str "c", V.str "ulm"] : List V) = (["a", "b", "c", "ulm"] : List Str).map V.str := rfl
section
variable {P : Program} {w : World} {K : PySem.W.Frag} {mg : Str → Option Value} {base : Heap}
theorem scWorths : FnScope ["_law_pen_here", "_law_found"] ["_law_pen_here"] (defScope sWorths) := ⟨rfl, rfl, rfl, by decide +kernel, rfl, by decide +kernel, by decide +kernel⟩
theorem ok_worths {f : Addr} {fd : FuncData} (F : Fun K "_law_worths" "_law_worths" sWorths f fd) (G : Bn mg) (cS : CalN P w K mg base 3 "_law_some" (spSome K)) : FnOk P w K mg base CX0 4 f fd ["_law_pen_here"] spWorths := by
  refine Fun.okW F scWorths (fun vs H Q E h => by obtain ⟨a, b, c, rfl, _⟩ := h; rfl) (fun cdv B out s H vs Q E hr h => ?_)
  obtain ⟨p, L, n, rfl, Pn, hn, q⟩ := h
  refine l_cons (s_set 1 ?_ scWorths.nd)
  refine e_sorted G.sorted (e_c cS hr (by decide) (a_cons (e_var 0 rfl (a_cons (e_lst ?_)))))
  iterate 4 refine a_cons (e_str ?_)
  refine a_nil ⟨by show 4 ≤ sizeLine; decide, fun pl hpl => ?_⟩
  have npl : pl ≠ p := Pn.newP hpl
  refine a_cons (e_int (a_nil ⟨p, L, pl, n, 3, ["a", "b", "c", "ulm"], rfl, Pn.same (same_new hpl), by omega, .inl (.inl upd_same), npl, by decide, by decide, fun c ys H1 b1 P1 nc hc hl hy => ?_⟩))
  have hnm : ∀ y ∈ ys, nm y := fun y h => nms_of (zs := ["a", "b", "c", "ulm"]) (by decide +kernel) y (hy y h)
  refine ⟨c, ys, rfl, .inl (.inl hc), by omega, fun ws r hp _ nr => ?_⟩
  have b2 : But p H (upd H1 r (.lst (ws.map V.str))) := (But.of (same_new hpl)).trans (b1.trans (But.of (same_new nr)))
  have hw : ∀ y ∈ ws, nm y := fun y h => hnm y (perm_mem hp h)
  have lw : ws.length ≤ 3 := by rw [hp.length_eq]; exact hl
  have P2 : Pen (upd H1 r (.lst (ws.map V.str))) p L (n + 100) := P1.same (same_new nr)
  have r2 : (upd H1 r (.lst (ws.map V.str))) r = some (.lst (ws.map V.str)) := upd_same
  generalize upd H1 r (.lst (ws.map V.str)) = H2 at b2 P2 r2
  refine l_one (s_ret (e_if (t_neD hr.units (e_var 1 rfl (e_lst (a_nil ⟨Nat.zero_le _, fun e he => ?_⟩))))))
  have s3 := same_new (o := .lst []) he
  refine ⟨.list (ws.map PyData.str), .list [], .lst (.inl (.inl (s3 _ _ r2))) (dp_strs ws), .lst (.inl (.inl upd_same)) .nil, shaped_strs hw, rfl, fun _ => ?_, fun _ => ?_⟩
  · refine e_tupL G.tuple (e_var 1 rfl ⟨r, _, rfl, .inl (.inl (s3 _ _ r2)), fun t ht => ?_⟩)
    refine q _ (ws.map PyData.str) _ (b2.trans (But.of (s3.trans (same_new ht)))) (P2.same (s3.trans (same_new ht))) (.tup upd_same (DTs.strs ws)) (by rw [List.length_map]; omega) fun d hd => ?_
    obtain ⟨z, hz, rfl⟩ := List.mem_map.mp hd
    exact ⟨z, rfl, hw z hz⟩
  · refine e_tup (a_cons (e_str (a_nil ⟨by show 1 ≤ sizeLine; decide, fun t ht => ?_⟩)))
    refine q _ [.str "b"] _ (b2.trans (But.of (s3.trans (same_new ht)))) (P2.same (s3.trans (same_new ht))) (.tup upd_same (.cons (.str _) .nil)) (by decide) fun d hd => ?_
    have ed : d = .str "b" := by simpa using hd
    exact ⟨_, ed, nm_of (by decide +kernel)⟩
theorem scCell : FnScope ["_law_pen_here", "_law_labels", "_law_label"] ["_law_pen_here", "_law_labels"] (defScope sCell) := ⟨rfl, rfl, rfl, by decide +kernel, rfl, by decide +kernel, by decide +kernel⟩
theorem ok_cell {f : Addr} {fd : FuncData} (F : Fun K "_law_cell" "_law_cell" sCell f fd) (G : Bn mg) (cD : CalN P w K mg base 2 "_law_draw" spDraw) : FnOk P w K mg base CX0 3 f fd ["_law_pen_here", "_law_labels"] (spCell K) := by
  refine Fun.okW F scCell (fun vs H Q E h => by obtain ⟨a, b, c, d, e, rfl, _⟩ := h; rfl) (fun cdv B out s H vs Q E hr h => ?_)
  obtain ⟨p, L, lb, n, zs, rfl, Pn, hn, hS, nlb, hz0, hz, hnm, q⟩ := h
  refine l_cons (s_set 2 (e_ixL (e_var 1 rfl (e_c cD hr (by decide) (a_cons (e_var 0 rfl (a_cons (e_len G.len (e_var 1 rfl ⟨lb, _, rfl, .inl hS, a_nil ⟨p, L, n, _, rfl, Pn, by omega, by rw [List.length_map]; omega, by rw [List.length_map]; omega, fun d H1 b1 P1 hd => ?_⟩⟩)))))))) scCell.nd)
  rw [List.length_map] at hd
  have hd2 : d < zs.length := by omega
  refine ⟨lb, _, d, _, rfl, rfl, sqL_but b1 nlb hS, at_map hd2, ?_⟩
  have nz := hnm _ (List.getElem_mem hd2)
  generalize zs[d] = z at nz
  refine l_one (s_ret (e_tup (a_cons (e_if (t_eq ?_)))))
  refine e_c cD hr (by decide) (a_cons (e_var 0 rfl (a_cons (e_int (a_nil ⟨p, L, n + 1, 3, rfl, P1, by omega, by decide, by decide, fun d2 H2 b2 P2 _ => ?_⟩)))))
  refine e_int ⟨rfl, fun _ => e_non ?_, fun _ => e_var 2 rfl ?_⟩
  all_goals
    refine a_cons (e_ixL (e_lst ?_))
    iterate 5 refine a_cons (e_str ?_)
    refine a_nil ⟨by show 5 ≤ sizeLine; decide, fun l hl => ?_⟩
    have nl : l ≠ p := P2.newP hl
    refine e_c cD hr (by decide) (a_cons (e_var 0 rfl (a_cons (e_int (a_nil ⟨p, L, n + 2, 5, rfl, P2.same (same_new hl), by omega, by decide, by decide, fun d3 H3 b3 P3 hd3 => ?_⟩)))))
    have hd4 : d3 < (["id", "id", "dept", "name", "town"] : List Str).length := by show d3 < 5; omega
    refine ⟨l, (["id", "id", "dept", "name", "town"] : List Str).map V.str, d3, _, rfl, rfl, sqL_but b3 nl (.inl (.inl upd_same)), at_map hd4, ?_⟩
    have nx := nms_of (zs := ["id", "id", "dept", "name", "town"]) (by decide +kernel) _ (List.getElem_mem hd4)
    generalize (["id", "id", "dept", "name", "town"] : List Str)[d3] = zx at nx
    refine a_nil ⟨by show 2 ≤ sizeLine; decide, fun t ht => ?_⟩
  · exact q _ (.tuple [.none, .str zx]) _ (b1.trans (b2.trans ((But.of (same_new hl)).trans (b3.trans (But.of (same_new ht)))))) (P3.same (same_new ht)) (.tup upd_same (.cons .non (.cons (.str _) .nil))) ⟨_, _, rfl, .inl rfl, _, rfl, nx⟩
  · exact q _ (.tuple [.str z, .str zx]) _ (b1.trans (b2.trans ((But.of (same_new hl)).trans (b3.trans (But.of (same_new ht)))))) (P3.same (same_new ht)) (.tup upd_same (.cons (.str _) (.cons (.str _) .nil))) ⟨_, _, rfl, .inr ⟨_, rfl, nz⟩, _, rfl, nx⟩
end
end K10

namespace K10
open PySem PySem.Spec PyProof.Rows L2 My
theorem at_some {xs : List V} {d : Nat} (h : d < xs.length) : atI xs (d : Int) = some xs[d] := atI_nat (List.getElem?_eq_getElem h)
/-- an item of a list of data -/
theorem pick {H : Hp} {xs : List V} {ds : List PyData} {ok : PyData → Prop} {d : Nat} (h : DTs H xs ds) (hl : d < xs.length) (k : ∀ x ∈ ds, ok x) : ∃ e, DT H xs[d] e ∧ ok e := by
  obtain ⟨e, he, hd⟩ := h.get (List.getElem?_eq_getElem hl)
  exact ⟨e, hd, k e (List.mem_of_getElem? he)⟩
theorem okN_of {z : Str} (h : nmB z = true) : okN (.str z) := ⟨z, rfl, nm_of h⟩
theorem okTm_val (k : Nat) {d : PyData} (h : okN d) : okTm k d := by cases k; exact .inl h; exact .inl h
theorem okTm_cell (k : Nat) {d : PyData} (h : okC d) : okTm k d := by cases k; exact .inr h; exact .inr (.inl h)
theorem penC_ge (k : Nat) : 4 ≤ penC k := by cases k with | zero => exact Nat.le_refl _ | succ k => show 4 ≤ 2 * penC k + 8; omega
theorem penC_le : ∀ k, k ≤ 3 → penC k ≤ 100 := by decide
section
variable {P : Program} {w : World} {K : PySem.W.Frag} {mg : Str → Option Value} {base : Heap}
theorem scLTerm : FnScope ["_law_pen_here", "_law_labels", "_law_depth", "_law_is_inner", "_law_road", "_law_some_here", "_law_schema", "_law_k"] ["_law_pen_here", "_law_labels", "_law_depth", "_law_is_inner"] (defScope sLTerm) := ⟨rfl, rfl, rfl, by decide +kernel, rfl, by decide +kernel, by decide +kernel⟩
theorem ok_lterm {f : Addr} {fd : FuncData} (F : Fun K "_law_term" "_law_term" sLTerm f fd) (bd : Binds K fd ["_law_pen_here", "_law_labels", "_law_depth", "_law_is_inner"] []) (hm : mg "_law_term" = some (.ref f)) (G : Bn mg) (cD : CalN P w K mg base 2 "_law_draw" spDraw) (cC : CalN P w K mg base 3 "_law_cell" (spCell K)) :
    ∀ k, k ≤ 3 → FnOk P w K mg base CX0 (k + 4) f fd ["_law_pen_here", "_law_labels", "_law_depth", "_law_is_inner"] (spLTerm K k) := by
  intro k
  induction k with
  | zero =>
    intro _
    refine Fun.okW F scLTerm (fun vs H Q E h => by obtain ⟨a, b, c, d, e, g, rfl, _⟩ := h; rfl) (fun cdv B out s H vs Q E hr h => ?_)
    obtain ⟨p, L, lb, n, zs, b, rfl, Pn, hn, hS, nlb, hz0, hz, hnm, q⟩ := h
    refine l_cons (s_set 4 (e_c cD hr (by decide) (a_cons (e_var 0 rfl (a_cons (e_int (a_nil ⟨p, L, n, 6, rfl, Pn, by omega, by decide, by decide, fun d H1 b1 P1 hd => ?_⟩)))))) scLTerm.nd)
    refine l_cons (WS.cut (P := fun σ H2 => σ = [some (.ref p), some (.ref lb), some (.int (0 : Nat)), some (.bl b), some (.int d), none, none, none] ∧ H2 = H1) (s_if (t_w (w_and (t_eq (e_var 4 rfl (e_int ⟨rfl, fun _ => w_and1 (t_not (t_tru (e_var 3 rfl ⟨b, rfl, fun _ => ?_, fun _ => l_nil ⟨rfl, rfl⟩⟩))), fun _ => ⟨fun e => Bool.noConfusion e, fun _ => l_nil ⟨rfl, rfl⟩⟩⟩)))))) ?_)
    · refine l_one (s_ret (e_ixL (e_lst ?_)))
      iterate 3 refine a_cons (e_str ?_)
      refine a_nil ⟨by show 3 ≤ sizeLine; decide, fun l hl => ?_⟩
      refine e_c cD hr (by decide) (a_cons (e_var 0 rfl (a_cons (e_int (a_nil ⟨p, L, n + 1, 3, rfl, P1.same (same_new hl), by omega, by decide, by decide, fun d2 H2 b2 P2 hd2 => ?_⟩)))))
      have hd4 : d2 < (["a", "b", "ulm"] : List Str).length := by show d2 < 3; omega
      refine ⟨l, (["a", "b", "ulm"] : List Str).map V.str, d2, _, rfl, rfl, sqL_but b2 (P1.newP hl) (.inl (.inl upd_same)), at_map hd4, ?_⟩
      have nx := nms_of (zs := ["a", "b", "ulm"]) (by decide +kernel) _ (List.getElem_mem hd4)
      exact q _ (.str _) _ (b1.trans ((But.of (same_new hl)).trans b2)) (P2.mono (by have := penC_ge 0; omega)) (.str _) (.inl ⟨_, rfl, nx⟩)
    rintro σ H2 ⟨rfl, rfl⟩
    refine l_cons (WS.cut (P := fun σ H3 => σ = [some (.ref p), some (.ref lb), some (.int (0 : Nat)), some (.bl b), some (.int d), none, none, none] ∧ H3 = H2) (s_if (t_w (w_and (t_lt (e_var 4 rfl (e_int ⟨_, _, rfl, rfl, fun _ => w_and1 (t_gt (e_var 2 rfl (e_int ⟨_, _, rfl, rfl, fun e => absurd (of_decide_eq_true e) (by decide), fun _ => l_nil ⟨rfl, rfl⟩⟩))), fun _ => ⟨fun e => Bool.noConfusion e, fun _ => l_nil ⟨rfl, rfl⟩⟩⟩)))))) ?_)
    rintro σ H3 ⟨rfl, rfl⟩
    exact l_one (s_ret (e_c cC hr (by decide) (a_cons (e_var 0 rfl (a_cons (e_var 1 rfl (a_nil ⟨p, L, lb, n + 1, zs, rfl, P1, by omega, sqL_but b1 nlb hS, nlb, hz0, hz, hnm, fun v d H4 b4 P4 hv hd => q v d H4 (b1.trans b4) P4 hv (.inr hd)⟩)))))))
  | succ k ih =>
    intro hk
    have pk := penC_le k (by omega)
    have ge := penC_ge k
    have cT : CalN P w K mg base (k + 4) "_law_term" (spLTerm K k) := ⟨f, fd, _, ih (by omega), hm, F.kp, bd⟩
    have epk : penC (k + 1) = 2 * penC k + 8 := rfl
    refine Fun.okW F scLTerm (fun vs H Q E h => by obtain ⟨a, b, c, d, e, g, rfl, _⟩ := h; rfl) (fun cdv B out s H vs Q E hr h => ?_)
    obtain ⟨p, L, lb, n, zs, b, rfl, Pn, hn, hS, nlb, hz0, hz, hnm, q⟩ := h
    refine l_cons (s_set 4 (e_c cD hr (by omega) (a_cons (e_var 0 rfl (a_cons (e_int (a_nil ⟨p, L, n, 6, rfl, Pn, by omega, by decide, by decide, fun d H1 b1 P1 hd => ?_⟩)))))) scLTerm.nd)
    refine l_cons (WS.cut (P := fun σ H2 => σ = [some (.ref p), some (.ref lb), some (.int ((k + 1 : Nat) : Int)), some (.bl b), some (.int d), none, none, none] ∧ H2 = H1) (s_if (t_w (w_and (t_eq (e_var 4 rfl (e_int ⟨rfl, fun _ => w_and1 (t_not (t_tru (e_var 3 rfl ⟨b, rfl, fun _ => ?_, fun _ => l_nil ⟨rfl, rfl⟩⟩))), fun _ => ⟨fun e => Bool.noConfusion e, fun _ => l_nil ⟨rfl, rfl⟩⟩⟩)))))) ?_)
    · refine l_one (s_ret (e_ixL (e_lst ?_)))
      iterate 3 refine a_cons (e_str ?_)
      refine a_nil ⟨by show 3 ≤ sizeLine; decide, fun l hl => ?_⟩
      refine e_c cD hr (by omega) (a_cons (e_var 0 rfl (a_cons (e_int (a_nil ⟨p, L, n + 1, 3, rfl, P1.same (same_new hl), by omega, by decide, by decide, fun d2 H2 b2 P2 hd2 => ?_⟩)))))
      have hd4 : d2 < (["a", "b", "ulm"] : List Str).length := by show d2 < 3; omega
      refine ⟨l, (["a", "b", "ulm"] : List Str).map V.str, d2, _, rfl, rfl, sqL_but b2 (P1.newP hl) (.inl (.inl upd_same)), at_map hd4, ?_⟩
      have nx := nms_of (zs := ["a", "b", "ulm"]) (by decide +kernel) _ (List.getElem_mem hd4)
      exact q _ (.str _) _ (b1.trans ((But.of (same_new hl)).trans b2)) (P2.mono (by omega)) (.str _) (.inl ⟨_, rfl, nx⟩)
    rintro σ H2 ⟨rfl, rfl⟩
    refine l_cons (WS.cut (P := fun σ H3 => σ = [some (.ref p), some (.ref lb), some (.int ((k + 1 : Nat) : Int)), some (.bl b), some (.int d), none, none, none] ∧ H3 = H2) (s_if (t_w (w_and (t_lt (e_var 4 rfl (e_int ⟨_, _, rfl, rfl, fun _ => w_and1 (t_gt (e_var 2 rfl (e_int ⟨_, _, rfl, rfl, fun e => ?_, fun _ => l_nil ⟨rfl, rfl⟩⟩))), fun _ => ⟨fun e => Bool.noConfusion e, fun _ => l_nil ⟨rfl, rfl⟩⟩⟩)))))) ?_)
    · -- a call
      refine l_cons (s_lcR 5 7 G.range scLTerm.nd (blkOk_by (N := ["_law_pen_here", "_law_labels", "_law_depth", "_law_is_inner", "_law_road", "_law_some_here", "_law_schema", "_law_k"]) (sc := defScope sLTerm) (by decide +kernel)) ?_ (fun _ _ _ _ _ => pg_name (i := 7) scLTerm.nd rfl (Or.inl rfl)) (sw_true rfl rfl rfl (by decide +kernel)))
      refine e_addI (e_int (e_intI G.int (e_cmp op_eq ?_)))
      refine e_c cD hr (by omega) (a_cons (e_var 0 rfl (a_cons (e_int (a_nil ⟨p, L, n + 1, 4, rfl, P1, by omega, by decide, by decide, fun d2 H3 b3 P3 hd3 => ?_⟩)))))
      refine e_int ⟨rfl, .inr ⟨_, rfl, 1, _, rfl, rfl, ?_⟩⟩
      obtain ⟨m, em, m1, m2⟩ : ∃ m : Nat, (1 : Int) + (if decide (V.int (d2 : Int) = V.int 0) = true then 1 else 0) = m ∧ 1 ≤ m ∧ m ≤ 2 := by
        by_cases h : V.int (d2 : Int) = V.int 0
        · exact ⟨2, by rw [decide_eq_true h]; rfl, by omega, by omega⟩
        · exact ⟨1, by rw [decide_eq_false h]; rfl, by omega, by omega⟩
      refine ⟨m, by rw [em], by omega, fun Dn nD => ?_⟩
      have nDp : Dn ≠ p := P3.newP nD
      have nDL : Dn ≠ L := P3.newL nD
      refine ⟨fun i H4 => ∃ vs ds, (∀ b o, b ≠ p → H3 b = some o → H4 b = some o) ∧ Pen H4 p L (n + 2 + i * penC k) ∧ H4 Dn = some (.lst vs) ∧ DTs H4 vs ds ∧ ds.length = i ∧ ∀ d ∈ ds, okTm k d, ?_, ?_, ?_⟩
      · exact ⟨[], [], fun b o _ h => same_new nD b o h, (P3.same (same_new nD)).mono (by omega), upd_same, .nil, rfl, fun d h => by cases h⟩
      · rintro i H4 hi ⟨vs, ds, k1, k2, k3, k4, k5, k6⟩ s0 H00 C cl fp
        have hb4 : But p _ H4 := b3.trans k1
        refine e_c cT hr (Nat.le_refl _) (a_cons (e_var 0 rfl (a_cons (e_var 1 rfl (a_cons (e_subI (e_var 2 rfl (e_int ⟨_, 1, rfl, rfl, a_cons (e_var 3 rfl (a_nil ⟨p, L, lb, n + 2 + i * penC k, zs, b, ?_, k2, ?_, sqL_but (b1.trans hb4) nlb hS, nlb, hz0, hz, hnm, fun v d H5 b5 P5 hv hd => ?_⟩))⟩))))))))
        · have : ((k + 1 : Nat) : Int) - 1 = (k : Int) := by omega
          rw [this]
          rfl
        · have : i * penC k ≤ 1 * penC k := Nat.mul_le_mul_right _ (by omega)
          omega
        · have d5 := b5 _ _ nDp k3
          have lv := k4.length
          refine ⟨vs, d5, ?_, vs ++ [v], ds ++ [d], fun b o nb h => ?_, ?_, upd_same, ?_, ?_, ?_⟩
          · exact Nat.lt_of_lt_of_le (show vs.length < 100 by omega) (by decide)
          · have nbD : b ≠ Dn := ne_of_none h nD
            rw [upd_ne nbD]
            exact b5 b o nb (k1 b o nb h)
          · refine (P5.upd nDp nDL).mono ?_
            rw [Nat.add_mul]
            omega
          · exact ((k4.mono (Pen.tups k2 b5)).mono (Tup.set d5)).snoc (hv.mono (Tup.set d5))
          · rw [List.length_append, k5]; rfl
          · intro x hx
            rcases List.mem_append.mp hx with hx | hx
            · exact k6 x hx
            · have e : x = d := by simpa using hx
              rw [e]; exact hd
      · rintro H4 ⟨vs, ds, k1, k2, k3, k4, k5, k6⟩
        have hb4 : But p _ H4 := b3.trans k1
        have k2' : Pen H4 p L (n + 2 + 2 * penC k) := k2.mono (by have : m * penC k ≤ 2 * penC k := Nat.mul_le_mul_right _ m2; omega)
        -- schema
        refine l_cons (s_set 6 (e_ixL (e_lst ?_)) scLTerm.nd)
        refine a_cons (e_non (a_cons (e_non (a_cons (e_str (a_cons (e_str (a_nil ⟨by show 4 ≤ sizeLine; decide, fun l hl => ?_⟩))))))))
        have s5 := same_new (o := .lst [V.non, .non, .str "main", .str "own"]) hl
        refine e_c cD hr (by omega) (a_cons (e_var 0 rfl (a_cons (e_int (a_nil ⟨p, L, n + 2 + 2 * penC k, 4, rfl, k2'.same s5, by omega, by decide, by decide, fun d5 H5 b5 P5 hd5 => ?_⟩)))))
        have hl5 : d5 < ([V.non, .non, .str "main", .str "own"] : List V).length := by show d5 < 4; omega
        refine ⟨l, _, d5, _, rfl, rfl, sqL_but b5 (k2'.newP hl) (.inl (.inl upd_same)), at_some hl5, ?_⟩
        obtain ⟨e6, he6, ok6⟩ := pick (H := H5) (ds := [.none, .none, .str "main", .str "own"]) (ok := okO) (d := d5) (.cons .non (.cons .non (.cons (.str _) (.cons (.str _) .nil)))) hl5 (fun x hx => by
          simp only [List.mem_cons, List.not_mem_nil, or_false] at hx
          rcases hx with rfl | rfl | rfl | rfl
          · exact .inl rfl
          · exact .inl rfl
          · exact .inr (okN_of (by decide +kernel))
          · exact .inr (okN_of (by decide +kernel)))
        generalize ([V.non, .non, .str "main", .str "own"] : List V)[d5] = v6 at he6
        refine l_one (s_ret (e_tup (a_cons (e_str (a_cons (e_var 6 rfl (a_cons (e_ixL (e_lst ?_)))))))))
        iterate 3 refine a_cons (e_str ?_)
        refine a_nil ⟨by show 3 ≤ sizeLine; decide, fun l2 hl2 => ?_⟩
        have s6 := same_new (o := .lst [V.str "f", .str "f", .str "g"]) hl2
        refine e_c cD hr (by omega) (a_cons (e_var 0 rfl (a_cons (e_int (a_nil ⟨p, L, n + 3 + 2 * penC k, 3, rfl, P5.same s6 |>.mono (by omega), by omega, by decide, by decide, fun d6 H6 b6 P6 hd6 => ?_⟩)))))
        have hl6 : d6 < (["f", "f", "g"] : List Str).length := by show d6 < 3; omega
        refine ⟨l2, (["f", "f", "g"] : List Str).map V.str, d6, _, rfl, rfl, sqL_but b6 (P5.newP hl2) (.inl (.inl upd_same)), at_map hl6, ?_⟩
        have nx := nms_of (zs := ["f", "f", "g"]) (by decide +kernel) _ (List.getElem_mem hl6)
        generalize (["f", "f", "g"] : List Str)[d6] = zx at nx
        have hb46 : But p H4 H6 := (But.of s5).trans (b5.trans ((But.of s6).trans b6))
        have hD6 := hb46 _ _ nDp k3
        refine a_cons (e_tupL G.tuple (e_var 5 rfl ⟨Dn, vs, rfl, .inl (.inl hD6), fun t1 ht1 => a_nil ⟨by show 4 ≤ sizeLine; decide, fun t2 ht2 => ?_⟩⟩))
        have s7 := (same_new (o := .tup vs) ht1).trans (same_new (o := .tup [V.str "call", v6, .str zx, .ref t1]) ht2)
        have P7 := P6.same s7
        have dts : DTs (upd (upd H6 t1 (.tup vs)) t2 (.tup [V.str "call", v6, .str zx, .ref t1])) vs ds := (k4.mono (Pen.tups k2 hb46)).mono (My.Same.tups s7)
        refine q _ (.tuple [.str "call", e6, .str zx, .tuple ds]) _ (b1.trans (hb4.trans (hb46.trans (But.of s7)))) (P7.mono (by omega)) (.tup upd_same (.cons (.str _) (.cons ?_ (.cons (.str _) (.cons (.tup (ds := ds) ?_ dts) .nil))))) (.inr (.inr ⟨_, _, _, rfl, ok6, ⟨_, rfl, nx⟩, by omega, by omega, k6⟩))
        · exact he6.mono ((My.Same.tups s6).trans ((Pen.tups (P5.same s6) b6).trans (My.Same.tups s7)))
        · rw [upd_ne (ne_of_none upd_same ht2)]; exact upd_same
    rintro σ H3 ⟨rfl, rfl⟩
    exact l_one (s_ret (e_c cC hr (by omega) (a_cons (e_var 0 rfl (a_cons (e_var 1 rfl (a_nil ⟨p, L, lb, n + 1, zs, rfl, P1, by omega, sqL_but b1 nlb hS, nlb, hz0, hz, hnm, fun v d H4 b4 P4 hv hd => q v d H4 (b1.trans b4) (P4.mono (by omega)) hv (.inr (.inl hd))⟩)))))))
end
end K10

namespace K10
open PySem PySem.Spec PyProof.Rows L2 My
section
variable {X : Cx} {a b : Expr} {σ : L2.St} {H : Hp} {D : Ends} {pos px py pt pt2 : Pos} {x y : Str} {kt k2 : _}
/-- x, y = a, b -/
theorem s_par (i j : Nat) (h : WA X [a, b] σ H fun vs H1 => ∃ v w, vs = [v, w] ∧ D.nx ((σ.set i (some v)).set j (some w)) H1) (hN : X.N.Nodup) (hij : i ≠ j) (hi : X.N[i]? = some x := by rfl) (hj : X.N[j]? = some y := by rfl)
    (hx : X.env.scope.names.lookup x = some .local := by rfl) (hy : X.env.scope.names.lookup y = some .local := by rfl)
    (hw : swappedStores [.Tuple [.Name x px, .Name y py] kt pt] (.Tuple [a, b] k2 pt2) X.env = pure (some [x, y]) := by rfl)
    (hs : swapsWithSole [.Tuple [.Name x px, .Name y py] kt pt] (.Tuple [a, b] k2 pt2) pos.line X.env = pure false := by rfl) (hc : X.calm = true := by rfl) :
    WS X (.Assign [.Tuple [.Name x px, .Name y py] kt pt] (.Tuple [a, b] k2 pt2) pos) D σ H := toS (ps_par hc hN hi hj hij hx hy pA hw hs) h
end
theorem flat_strs (zs : List Str) : (zs.map V.str).all flatV = true := by
  induction zs with
  | nil => rfl
  | cons z zs ih => show (true && (zs.map V.str).all flatV) = true; rw [ih]; rfl
theorem in_pos {z : Str} {zs : List Str} (h : inV (.str z) (zs.map V.str) = true) : 0 < zs.length := by
  cases zs with
  | nil => cases h
  | cons _ _ => exact Nat.succ_pos _
/-- all but the pen and one list is as it was -/
def But2 (p q : Addr) (H H' : Hp) : Prop := ∀ b o, b ≠ p → b ≠ q → H b = some o → H' b = some o
def But3 (p q r : Addr) (H H' : Hp) : Prop := ∀ b o, b ≠ p → b ≠ q → b ≠ r → H b = some o → H' b = some o
theorem But2.tups {p q : Addr} {H H' : Hp} {xs ys : List V} (k : But2 p q H H') (hp : H p = some (.lst xs)) (hq : H q = some (.lst ys)) : Tup H H' := fun b zs e => k b _ (ne_of e hp (fun z => by cases z)) (ne_of e hq (fun z => by cases z)) e
theorem But3.tups {p q r : Addr} {H H' : Hp} {xs ys ws : List V} (k : But3 p q r H H') (hp : H p = some (.lst xs)) (hq : H q = some (.lst ys)) (hr : H r = some (.lst ws)) : Tup H H' :=
  fun b zs e => k b _ (ne_of e hp (fun z => by cases z)) (ne_of e hq (fun z => by cases z)) (ne_of e hr (fun z => by cases z)) e
theorem But2.but {p q : Addr} {H H1 H2 : Hp} (k : But2 p q H H1) (b : But p H1 H2) : But2 p q H H2 := fun c o n1 n2 e => b c o n1 (k c o n1 n2 e)
theorem But3.but {p q r : Addr} {H H1 H2 : Hp} (k : But3 p q r H H1) (b : But p H1 H2) : But3 p q r H H2 := fun c o n1 n2 n3 e => b c o n1 (k c o n1 n2 n3 e)
theorem But2.upd {p q : Addr} {H H1 : Hp} {o : HO} (k : But2 p q H H1) : But2 p q H (upd H1 q o) := fun c u n1 n2 e => by rw [upd_ne n2]; exact k c u n1 n2 e
theorem But3.upd1 {p q r : Addr} {H H1 : Hp} {o : HO} (k : But3 p q r H H1) : But3 p q r H (upd H1 q o) := fun c u n1 n2 n3 e => by rw [upd_ne n2]; exact k c u n1 n2 n3 e
theorem But3.upd2 {p q r : Addr} {H H1 : Hp} {o : HO} (k : But3 p q r H H1) : But3 p q r H (upd H1 r o) := fun c u n1 n2 n3 e => by rw [upd_ne n3]; exact k c u n1 n2 n3 e
def okPl (d : PyData) : Prop := ∃ x y, d = .tuple [.str x, .str y] ∧ nm x ∧ nm y
def spStatement : Sp := fun vs H Q _ => ∃ (p L pl : Addr) (n : Nat) (xs : List V) (ds : List PyData) (b : Bool), vs = [.ref p, .ref pl, .int 3, .bl b] ∧ Pen H p L n ∧ n + 3000 < 2 ^ 40 ∧ H pl = some (.lst xs) ∧ DTs H xs ds ∧ pl ≠ p ∧ 0 < ds.length ∧ ds.length ≤ 10 ∧ (∀ d ∈ ds, okPl d) ∧
  ∀ (v : V) (d : PyData) (H' : Hp), But p H H' → Pen H' p L (n + 1000) → DT H' v d → okSt d → Q v H'
abbrev nSt : List Str := ["_law_pen_here", "_law_places", "_law_most", "_law_is_inner", "_law_sources_here", "_law_labels", "_law_turn", "_law_schema", "_law_nym", "_law_label", "_law_told", "_law_called", "_law_one", "_law_is_column", "_law_conditions_here", "_law_is_distinct"]
section
variable {P : Program} {w : World} {K : PySem.W.Frag} {mg : Str → Option Value} {base : Heap}
theorem scStatement : FnScope nSt ["_law_pen_here", "_law_places", "_law_most", "_law_is_inner"] (defScope sStatement) := ⟨rfl, rfl, rfl, by decide +kernel, rfl, by decide +kernel, by decide +kernel⟩
/-- one more source -/
theorem st_source {cdv : Value} {B : Around} {out : List Env} {s : Shared} {H H0 : Hp} {E : XK} {f : Addr} {D : Ends} (G : Bn mg) (cD : CalN P w K mg base 2 "_law_draw" spDraw) (hr : Room 9 (B.deeper (envOfC "_law_statement" (defScope sStatement) s.heap.objs.size f cdv)))
    {p L pl S Lb : Addr} {b : Bool} {t7 t8 t9 : Option V} {n : Nat} {i : Nat} {xs sx : List V} {ds sd : List PyData} {zs : List Str} {body : List Stmt} (hb : body = (match defBody sStatement with | _ :: .For _ _ l _ _ :: _ => l | _ => []))
    (Pn : Pen H p L n) (hn : n + 300 < 2 ^ 40) (hi : i < 3) (hpl : H pl = some (.lst xs)) (hds : DTs H xs ds) (npl : pl ≠ p) (d0 : 0 < ds.length) (d1 : ds.length ≤ 10) (okd : ∀ d ∈ ds, okPl d)
    (hS : H S = some (.lst sx)) (hsd : DTs H sx sd) (oks : ∀ d ∈ sd, okSrc d) (ls : sd.length ≤ i) (nSp : S ≠ p) (nSL : S ≠ L) (hL : H Lb = some (.lst (zs.map V.str))) (okz : ∀ z ∈ zs, nm z) (lz : zs.length ≤ i) (nLp : Lb ≠ p) (nLL : Lb ≠ L) (nSLb : S ≠ Lb) (nplS : pl ≠ S) (nplL : pl ≠ Lb)
    (k : ∀ (t7 t8 t9 : Option V) (sx : List V) (sd : List PyData) (zs : List Str) (H' : Hp), But3 p S Lb H H' → Pen H' p L (n + 4) → H' S = some (.lst sx) → DTs H' sx sd → (∀ d ∈ sd, okSrc d) → sd.length ≤ i + 1 → H' Lb = some (.lst (zs.map V.str)) → (∀ z ∈ zs, nm z) → zs.length ≤ i + 1 → 0 < zs.length →
      D.nx [some (.ref p), some (.ref pl), some (.int 3), some (.bl b), some (.ref S), some (.ref Lb), some (.int i), t7, t8, t9, none, none, none, none, none, none] H') :
    WL (cxOf CX0 P w K mg base nSt "_law_statement" (defScope sStatement) f cdv B out s H0 E).nox body D [some (.ref p), some (.ref pl), some (.int 3), some (.bl b), some (.ref S), some (.ref Lb), some (.int i), t7, t8, t9, none, none, none, none, none, none] H := by
  subst hb
  have lxs := hds.length
  -- schema, nym = places[..]
  refine l_cons (s_asg (pg_tup rfl (pgs_cons (pg_name (i := 7) scStatement.nd rfl (.inl rfl)) (pgs_cons (pg_name (i := 8) scStatement.nd rfl (.inl rfl)) pgs_nil))) (e_ixL (e_var 1 rfl ?_)))
  refine e_c cD hr (by decide) (a_cons (e_var 0 rfl (a_cons (e_len G.len (e_var 1 rfl ⟨pl, _, rfl, .inl (.inl (.inl hpl)), a_nil ⟨p, L, n, _, rfl, Pn, by omega, by omega, by omega, fun d H1 b1 P1 hd => ?_⟩⟩)))))
  have hd2 : d < xs.length := by omega
  have hds1 := hds.mono (Pen.tups Pn b1)
  obtain ⟨e, he, x, y, rfl, nx, ny⟩ := pick (d := d) hds1 hd2 okd
  obtain ⟨t, u1, u2, et, ht, hu1, hu2⟩ := he.tup2
  have eu1 := hu1.strE
  have eu2 := hu2.strE
  subst eu1 eu2
  refine ⟨pl, xs, d, xs[d], rfl, rfl, .inl (.inl (b1 _ _ npl hpl)), at_some hd2, t, _, et, .inl (.inl ht), rfl, _, _, rfl, _, _, rfl, rfl, ?_⟩
  have hL1 := b1 _ _ nLp hL
  have hS1 := b1 _ _ nSp hS
  -- label = ..
  refine l_cons (WS.cut (P := fun σ H2 => ∃ z, σ = [some (.ref p), some (.ref pl), some (.int 3), some (.bl b), some (.ref S), some (.ref Lb), some (.int i), some (.str x), some (.str y), some (.str z), none, none, none, none, none, none] ∧ nm z ∧ But p H1 H2 ∧ Pen H2 p L (n + 2)) (s_set 9 (e_if (t_w (w_and ?_))) scStatement.nd) ?_)
  · refine t_cmp op_notIn_seq (e_var 8 rfl (e_var 5 rfl ⟨Lb, _, rfl, .inl (.inl (.inl hL1)), rfl, flat_strs zs, _, rfl, fun _ => ?_, fun _ => ⟨fun e => Bool.noConfusion e, fun _ => ?_⟩⟩)) (by with_unfolding_all rfl)
    · refine w_and1 (t_eq ?_)
      refine e_c cD hr (by decide) (a_cons (e_var 0 rfl (a_cons (e_int (a_nil ⟨p, L, n + 1, 2, rfl, P1, by omega, by decide, by decide, fun d2 H2 b2 P2 hd2 => e_int ⟨rfl, fun _ => e_var 8 rfl ⟨y, rfl, ny, b2, P2⟩, fun _ => ?_⟩⟩)))))
      refine e_ixL (e_lst ?_)
      iterate 4 refine a_cons (e_str ?_)
      refine a_nil ⟨by show 4 ≤ sizeLine; decide, fun l hl => ?_⟩
      have hi4 : i < (["p", "q", "r", "s"] : List Str).length := by show i < 4; omega
      exact e_var 6 rfl ⟨l, (["p", "q", "r", "s"] : List Str).map V.str, i, _, rfl, rfl, .inl (.inl upd_same), at_map hi4, _, rfl, nms_of (zs := ["p", "q", "r", "s"]) (by decide +kernel) _ (List.getElem_mem hi4), b2.trans (But.of (same_new hl)), P2.same (same_new hl)⟩
    · refine e_ixL (e_lst ?_)
      iterate 4 refine a_cons (e_str ?_)
      refine a_nil ⟨by show 4 ≤ sizeLine; decide, fun l hl => ?_⟩
      have hi4 : i < (["p", "q", "r", "s"] : List Str).length := by show i < 4; omega
      exact e_var 6 rfl ⟨l, (["p", "q", "r", "s"] : List Str).map V.str, i, _, rfl, rfl, .inl (.inl upd_same), at_map hi4, _, rfl, nms_of (zs := ["p", "q", "r", "s"]) (by decide +kernel) _ (List.getElem_mem hi4), But.of (same_new hl), (P1.same (same_new hl)).mono (by omega)⟩
  rintro σ H2 ⟨z, rfl, nz, b2, P2⟩
  have hL2 := b2 _ _ nLp hL1
  have hS2 := b2 _ _ nSp hS1
  have hsd2 := (hsd.mono (Pen.tups Pn b1)).mono (Pen.tups P1 b2)
  have k02 : But3 p S Lb H H2 := fun c o n1 _ _ e => b2 c o n1 (b1 c o n1 e)
  -- if label not in labels
  refine l_one (s_if (t_cmp op_notIn_seq (e_var 9 rfl (e_var 5 rfl ⟨Lb, _, rfl, .inl (.inl (.inl hL2)), rfl, flat_strs zs, _, rfl, fun _ => ?_, fun e => l_nil ?_⟩)) (by with_unfolding_all rfl)))
  · refine l_cons (s_app (e_var 5 rfl ⟨⟨Lb, _, rfl, .inl (.inl hL2)⟩, e_var 9 rfl ⟨Lb, _, rfl, hL2, by rw [List.length_map]; exact Nat.lt_of_lt_of_le (show zs.length < 100 by omega) (by decide), ?_⟩⟩))
    have P3 : Pen (upd H2 Lb (.lst (zs.map V.str ++ [.str z]))) p L (n + 2) := P2.upd nLp nLL
    have hS3 : (upd H2 Lb (.lst (zs.map V.str ++ [.str z]))) S = some (.lst sx) := by rw [upd_ne nSLb]; exact hS2
    have hL3 : (upd H2 Lb (.lst (zs.map V.str ++ [.str z]))) Lb = some (.lst ((zs ++ [z]).map V.str)) := by rw [upd_same, List.map_append]; rfl
    have hsd3 := hsd2.mono (Tup.set (o := .lst (zs.map V.str ++ [.str z])) hL2)
    have k03 : But3 p S Lb H (upd H2 Lb (.lst (zs.map V.str ++ [.str z]))) := k02.upd2
    generalize (upd H2 Lb (.lst (zs.map V.str ++ [.str z]))) = H3 at P3 hS3 hL3 hsd3 k03
    refine l_one (s_app (e_var 4 rfl ⟨⟨S, _, rfl, .inl (.inl hS3)⟩, e_tup (a_cons (e_if (t_eq ?_)))⟩))
    refine e_c cD hr (by decide) (a_cons (e_var 0 rfl (a_cons (e_int (a_nil ⟨p, L, n + 2, 2, rfl, P3, by omega, by decide, by decide, fun d4 H4 b4 P4 _ => e_int ⟨rfl, fun _ => e_non ?_, fun _ => e_var 7 rfl ?_⟩⟩)))))
    all_goals
      refine a_cons (e_var 8 rfl (a_cons (e_var 9 rfl (a_nil ⟨by show 3 ≤ sizeLine; decide, fun tp htp => ?_⟩))))
      have hS4 := b4 _ _ nSp hS3
      have hL4 := b4 _ _ nLp hL3
      refine ⟨S, sx, rfl, same_new htp _ _ hS4, Nat.lt_of_lt_of_le (show sx.length < 100 by have := hsd.length; omega) (by decide), ?_⟩
      have hsd4 := hsd3.mono (Pen.tups P3 b4)
    · refine k _ _ _ (sx ++ [.ref tp]) (sd ++ [.tuple [.none, .str y, .str z]]) (zs ++ [z]) _ ((k03.but (b4.trans (But.of (same_new htp)))).upd1) (((P4.same (same_new htp)).upd nSp nSL).mono (by omega)) upd_same ?_ ?_ ?_ ?_ ?_ ?_ ?_
      · exact ((hsd4.mono (Tup.new htp)).mono (Tup.set (same_new htp _ _ hS4))).snoc (.tup (by rw [upd_ne (ne_of_none hS4 htp).symm, upd_same]) (.cons .non (.cons (.str _) (.cons (.str _) .nil))))
      · intro d hd
        rcases List.mem_append.mp hd with hd | hd
        · exact oks d hd
        · have e : d = .tuple [.none, .str y, .str z] := by simpa using hd
          rw [e]; exact ⟨_, _, _, rfl, .inl rfl, ⟨_, rfl, ny⟩, ⟨_, rfl, nz⟩⟩
      · rw [List.length_append]; exact Nat.succ_le_succ ls
      · rw [upd_ne nSLb.symm]; exact same_new htp _ _ hL4
      · intro w hw
        rcases List.mem_append.mp hw with hw | hw
        · exact okz w hw
        · have e : w = z := by simpa using hw
          rw [e]; exact nz
      · rw [List.length_append]; exact Nat.succ_le_succ lz
      · rw [List.length_append]; exact Nat.succ_pos _
    · refine k _ _ _ (sx ++ [.ref tp]) (sd ++ [.tuple [.str x, .str y, .str z]]) (zs ++ [z]) _ ((k03.but (b4.trans (But.of (same_new htp)))).upd1) (((P4.same (same_new htp)).upd nSp nSL).mono (by omega)) upd_same ?_ ?_ ?_ ?_ ?_ ?_ ?_
      · exact ((hsd4.mono (Tup.new htp)).mono (Tup.set (same_new htp _ _ hS4))).snoc (.tup (by rw [upd_ne (ne_of_none hS4 htp).symm, upd_same]) (.cons (.str _) (.cons (.str _) (.cons (.str _) .nil))))
      · intro d hd
        rcases List.mem_append.mp hd with hd | hd
        · exact oks d hd
        · have e : d = .tuple [.str x, .str y, .str z] := by simpa using hd
          rw [e]; exact ⟨_, _, _, rfl, .inr ⟨_, rfl, nx⟩, ⟨_, rfl, ny⟩, ⟨_, rfl, nz⟩⟩
      · rw [List.length_append]; exact Nat.succ_le_succ ls
      · rw [upd_ne nSLb.symm]; exact same_new htp _ _ hL4
      · intro w hw
        rcases List.mem_append.mp hw with hw | hw
        · exact okz w hw
        · have e : w = z := by simpa using hw
          rw [e]; exact nz
      · rw [List.length_append]; exact Nat.succ_le_succ lz
      · rw [List.length_append]; exact Nat.succ_pos _
  · refine k _ _ _ sx sd zs H2 k02 (P2.mono (by omega)) hS2 hsd2 oks (by omega) hL2 okz (by omega) (in_pos (z := z) ?_)
    simpa using e
end
end K10

namespace K10
open PySem PySem.Spec PyProof.Rows L2 My
theorem okTm_mono : ∀ (k : Nat) {d : PyData}, okTm k d → okTm (k + 1) d
  | 0, d, h => by
    rcases h with h | h
    · exact .inl h
    · exact .inr (.inl h)
  | k + 1, d, h => by
    rcases h with h | h | ⟨s, n, ts, e, hs, hn, h1, h2, h3⟩
    · exact .inl h
    · exact .inr (.inl h)
    · exact .inr (.inr ⟨s, n, ts, e, hs, hn, h1, h2, fun t ht => okTm_mono k (h3 t ht)⟩)
theorem okTm_le {k j : Nat} (h : k ≤ j) {d : PyData} (hd : okTm k d) : okTm j d := by
  induction j with
  | zero => cases Nat.le_zero.mp h; exact hd
  | succ j ih =>
    by_cases e : k = j + 1
    · subst e; exact hd
    · exact okTm_mono j (ih (by omega))
theorem penC_90 : ∀ k, k ≤ 3 → penC k ≤ 90 := by decide
def spLTermA (K : PySem.W.Frag) : Sp := fun vs H Q E => ∃ k, k ≤ 3 ∧ spLTerm K k vs H Q E
section
variable {P : Program} {w : World} {K : PySem.W.Frag} {mg : Str → Option Value} {base : Heap}
theorem ok_ltermA {f : Addr} {fd : FuncData} {ps : List Str} (F : ∀ k, k ≤ 3 → FnOk P w K mg base CX0 (k + 4) f fd ps (spLTerm K k)) : FnOk P w K mg base CX0 7 f fd ps (spLTermA K) :=
  ⟨fun vs H Q E ⟨k, hk, h⟩ => (F k hk).len vs H Q E h, fun A outer s H args us vs Q E hr e hb hv ⟨k, hk, hs⟩ => (F k hk).run A outer s H args us vs Q E (hr.mono (by omega)) e hb hv hs⟩
/-- one more told thing -/
theorem st_told {cdv : Value} {B : Around} {out : List Env} {s : Shared} {H H0 : Hp} {E : XK} {f : Addr} {D : Ends} (G : Bn mg) (cD : CalN P w K mg base 2 "_law_draw" spDraw) (cT : CalN P w K mg base 7 "_law_term" (spLTermA K)) (hr : Room 9 (B.deeper (envOfC "_law_statement" (defScope sStatement) s.heap.objs.size f cdv)))
    {p L pl S Lb T : Addr} {b : Bool} {t7 t8 t9 t11 t12 t13 : Option V} {n : Nat} {i : Nat} {tx : List V} {td : List PyData} {zs : List Str} {body : List Stmt} (hb : body = (match defBody sStatement with | _ :: _ :: _ :: .For _ _ l _ _ :: _ => l | _ => []))
    (Pn : Pen H p L n) (hn : n + 600 < 2 ^ 40) (hi : i < 3)
    (hT : H T = some (.lst tx)) (htd : DTs H tx td) (okt : ∀ d ∈ td, okTold d) (lt : td.length ≤ i) (nTp : T ≠ p) (nTL : T ≠ L) (hL : H Lb = some (.lst (zs.map V.str))) (okz : ∀ z ∈ zs, nm z) (l0 : 0 < zs.length) (lz : zs.length ≤ 10) (nLp : Lb ≠ p) (nLT : Lb ≠ T)
    (k : ∀ (t11 t12 t13 : Option V) (tx : List V) (td : List PyData) (H' : Hp), But2 p T H H' → Pen H' p L (n + 100) → H' T = some (.lst tx) → DTs H' tx td → (∀ d ∈ td, okTold d) → td.length ≤ i + 1 →
      D.nx [some (.ref p), some (.ref pl), some (.int 3), some (.bl b), some (.ref S), some (.ref Lb), some (.int i), t7, t8, t9, some (.ref T), t11, t12, t13, none, none] H') :
    WL (cxOf CX0 P w K mg base nSt "_law_statement" (defScope sStatement) f cdv B out s H0 E).nox body D [some (.ref p), some (.ref pl), some (.int 3), some (.bl b), some (.ref S), some (.ref Lb), some (.int i), t7, t8, t9, some (.ref T), t11, t12, t13, none, none] H := by
  subst hb
  -- called
  refine l_cons (WS.cut (P := fun σ H1 => ∃ c, σ = [some (.ref p), some (.ref pl), some (.int 3), some (.bl b), some (.ref S), some (.ref Lb), some (.int i), t7, t8, t9, some (.ref T), some (.str c), t12, t13, none, none] ∧ nm c ∧ But p H H1 ∧ Pen H1 p L (n + 1)) (s_set 11 (e_if (t_tru (e_var 3 rfl ⟨b, rfl, fun _ => ?_, fun _ => ?_⟩))) scStatement.nd) ?_)
  · refine e_ixL (e_lst ?_)
    iterate 5 refine a_cons (e_str ?_)
    refine a_nil ⟨by show 5 ≤ sizeLine; decide, fun l hl => ?_⟩
    have hi4 : i < (["id", "who", "c", "town", "name"] : List Str).length := by show i < 5; omega
    exact e_var 6 rfl ⟨l, (["id", "who", "c", "town", "name"] : List Str).map V.str, i, _, rfl, rfl, .inl (.inl upd_same), at_map hi4, _, rfl, nms_of (zs := ["id", "who", "c", "town", "name"]) (by decide +kernel) _ (List.getElem_mem hi4), But.of (same_new hl), (Pn.same (same_new hl)).mono (by omega)⟩
  · refine e_ixL (e_lst ?_)
    iterate 3 refine a_cons (e_str ?_)
    refine a_nil ⟨by show 3 ≤ sizeLine; decide, fun l hl => ?_⟩
    refine e_c cD hr (by decide) (a_cons (e_var 0 rfl (a_cons (e_int (a_nil ⟨p, L, n, 3, rfl, Pn.same (same_new hl), by omega, by decide, by decide, fun d H1 b1 P1 hd => ?_⟩)))))
    have hi4 : d < (["id", "id", "who"] : List Str).length := by show d < 3; omega
    exact ⟨l, (["id", "id", "who"] : List Str).map V.str, d, _, rfl, rfl, .inl (.inl (b1 _ _ (Pn.newP hl) upd_same)), at_map hi4, _, rfl, nms_of (zs := ["id", "id", "who"]) (by decide +kernel) _ (List.getElem_mem hi4), (But.of (same_new hl)).trans b1, P1⟩
  rintro σ H1 ⟨c, rfl, nc, b1, P1⟩
  have hT1 := b1 _ _ nTp hT
  have hL1 := b1 _ _ nLp hL
  have td1 := htd.mono (Pen.tups Pn b1)
  have ltx := htd.length
  -- the other way
  have other : ∀ H2, But p H1 H2 → Pen H2 p L (n + 2) → WL (cxOf CX0 P w K mg base nSt "_law_statement" (defScope sStatement) f cdv B out s H0 E).nox (match defBody sStatement with | _ :: _ :: _ :: .For _ _ [_, .If _ _ l _] _ _ :: _ => l | _ => []) D [some (.ref p), some (.ref pl), some (.int 3), some (.bl b), some (.ref S), some (.ref Lb), some (.int i), t7, t8, t9, some (.ref T), some (.str c), t12, t13, none, none] H2 := by
    intro H2 b2 P2
    have hT2 := b2 _ _ nTp hT1
    have hL2 := b2 _ _ nLp hL1
    have td2 := td1.mono (Pen.tups P1 b2)
    refine l_cons (s_set 12 ?_ scStatement.nd)
    refine e_c cT hr (by decide) (a_cons (e_var 0 rfl (a_cons (e_var 5 rfl (a_cons (e_addI (e_int ?_)))))))
    refine e_c cD hr (by decide) (a_cons (e_var 0 rfl (a_cons (e_int (a_nil ⟨p, L, n + 2, 3, rfl, P2, by omega, by decide, by decide, fun d3 H3 b3 P3 hd3 => ?_⟩)))))
    have hL3 := b3 _ _ nLp hL2
    have e13 : penC (d3 + 1) ≤ 90 := penC_90 (d3 + 1) (by omega)
    refine ⟨1, d3, rfl, rfl, a_cons (e_var 3 rfl (a_nil ⟨d3 + 1, by omega, p, L, Lb, n + 3, zs, b, ?_, P3, by omega, .inl (.inl hL3), nLp, l0, by omega, okz, fun v d H4 b4 P4 hv hd => ?_⟩))⟩
    · have : (1 : Int) + (d3 : Int) = ((d3 + 1 : Nat) : Int) := by omega
      rw [this]
      rfl
    have hT4 := b4 _ _ nTp (b3 _ _ nTp hT2)
    have td4 := (td2.mono (Pen.tups P2 b3)).mono (Pen.tups P3 b4)
    have b04 : But p H H4 := b1.trans (b2.trans (b3.trans b4))
    have fin : ∀ (ic : Bool) (tc : Option V) (kd : PyData) (z : Str), okTold (.tuple [.str z, d, .str c]) → ∀ H5 tp, H4 tp = none → H5 = upd H4 tp (.tup [.str z, v, .str c]) → D.nx [some (.ref p), some (.ref pl), some (.int 3), some (.bl b), some (.ref S), some (.ref Lb), some (.int i), t7, t8, t9, some (.ref T), some (.str c), some v, some (.bl ic), none, none] (upd H5 T (.lst (tx ++ [.ref tp]))) := by
      intro ic _ _ z hok H5 tp htp eH
      subst eH
      have s5 := same_new (o := .tup [V.str z, v, .str c]) htp
      refine k _ _ _ (tx ++ [.ref tp]) (td ++ [.tuple [.str z, d, .str c]]) _ (But2.upd (fun x u n1 n2 e => s5 _ _ (b04 x u n1 e))) (((P4.same s5).upd nTp nTL).mono (by omega)) upd_same ?_ ?_ ?_
      · exact ((td4.mono (My.Same.tups s5)).mono (Tup.set (s5 _ _ hT4))).snoc (.tup (by rw [upd_ne (ne_of_none hT4 htp).symm, upd_same]) (.cons (.str _) (.cons ((hv.mono (My.Same.tups s5)).mono (Tup.set (s5 _ _ hT4))) (.cons (.str _) .nil))))
      · intro x hx
        rcases List.mem_append.mp hx with hx | hx
        · exact okt x hx
        · have e : x = .tuple [.str z, d, .str c] := by simpa using hx
          rw [e]; exact hok
      · rw [List.length_append]; exact Nat.succ_le_succ lt
    rcases hd.cases with hN | hC | ⟨j, ej, hK⟩
    · obtain ⟨m, rfl, hm⟩ := hN
      have ev := hv.strE
      subst ev
      refine l_cons (s_set 13 (e_and (e_isi G.isi G.tuple PyProof.Rows.boot_tuple (e_var 12 rfl ⟨"str", false, ty_str, st, false, rfl, fun e => Bool.noConfusion e, fun _ => ?_⟩))) scStatement.nd)
      refine l_one (s_app (e_var 10 rfl ⟨⟨T, _, rfl, .inl (.inl hT4)⟩, e_tup (a_cons (e_if (t_tru (e_var 13 rfl ⟨false, (show TruV _ (V.bl false) _ false from rfl), fun e => Bool.noConfusion e, fun _ => e_str (a_cons (e_var 12 rfl (a_cons (e_var 11 rfl (a_nil ⟨by show 3 ≤ sizeLine; decide, fun tp htp => ?_⟩)))))⟩))))⟩))
      exact ⟨T, tx, rfl, same_new htp _ _ hT4, Nat.lt_of_lt_of_le (show tx.length < 100 by omega) (by decide), fin _ none .none "term" (.inr (.inr ⟨_, _, rfl, .inl ⟨m, rfl, hm⟩, ⟨c, rfl, nc⟩⟩)) _ tp htp rfl⟩
    · obtain ⟨a, e, rfl, ha, he⟩ := hC
      obtain ⟨t, u1, u2, rfl, ht, _, _⟩ := hv.tup2
      refine l_cons (s_set 13 (e_and (e_isi G.isi G.tuple PyProof.Rows.boot_tuple (e_var 12 rfl ⟨"tuple", true, ty_tup ht, tt, true, rfl, fun _ => e_one (e_cmp op_eq (e_len G.len (e_var 12 rfl ⟨t, _, rfl, .inr (.inl (.inl ht)), e_int ⟨rfl, ?_⟩⟩))), fun e => Bool.noConfusion e⟩))) scStatement.nd)
      refine l_one (s_app (e_var 10 rfl ⟨⟨T, _, rfl, .inl (.inl hT4)⟩, e_tup (a_cons (e_if (t_tru (e_var 13 rfl ⟨true, (show TruV _ (V.bl (decide (V.int (2 : Int) = V.int 2))) _ true from (decide_eq_true rfl).symm), fun _ => e_str (a_cons (e_var 12 rfl (a_cons (e_var 11 rfl (a_nil ⟨by show 3 ≤ sizeLine; decide, fun tp htp => ?_⟩))))), fun e => Bool.noConfusion e⟩))))⟩))
      exact ⟨T, tx, rfl, same_new htp _ _ hT4, Nat.lt_of_lt_of_le (show tx.length < 100 by omega) (by decide), fin _ none .none "column" (.inr (.inl ⟨a, e, _, rfl, ha, he, ⟨c, rfl, nc⟩⟩)) _ tp htp rfl⟩
    · obtain ⟨sc, nn, ts', rfl, hs', hn', h1', h2', h3'⟩ := hK
      obtain ⟨t, u1, u2, u3, u4, rfl, ht, _, _, _, _⟩ := hv.tup4
      refine l_cons (s_set 13 (e_and (e_isi G.isi G.tuple PyProof.Rows.boot_tuple (e_var 12 rfl ⟨"tuple", true, ty_tup ht, tt, true, rfl, fun _ => e_one (e_cmp op_eq (e_len G.len (e_var 12 rfl ⟨t, _, rfl, .inr (.inl (.inl ht)), e_int ⟨rfl, ?_⟩⟩))), fun e => Bool.noConfusion e⟩))) scStatement.nd)
      refine l_one (s_app (e_var 10 rfl ⟨⟨T, _, rfl, .inl (.inl hT4)⟩, e_tup (a_cons (e_if (t_tru (e_var 13 rfl ⟨false, (show TruV _ (V.bl (decide (V.int (4 : Int) = V.int 2))) _ false from (decide_eq_false (by decide)).symm), fun e => Bool.noConfusion e, fun _ => e_str (a_cons (e_var 12 rfl (a_cons (e_var 11 rfl (a_nil ⟨by show 3 ≤ sizeLine; decide, fun tp htp => ?_⟩)))))⟩))))⟩))
      exact ⟨T, tx, rfl, same_new htp _ _ hT4, Nat.lt_of_lt_of_le (show tx.length < 100 by omega) (by decide), fin _ none .none "term" (.inr (.inr ⟨_, _, rfl, .inr ⟨_, _, _, rfl, hs', hn', h1', h2', fun x hx => okTm_le (show j ≤ 2 by omega) (h3' x hx)⟩, ⟨c, rfl, nc⟩⟩)) _ tp htp rfl⟩
  refine l_one (s_if (t_w (w_and (t_not (t_tru (e_var 3 rfl ⟨b, rfl, fun _ => ?_, fun _ => ⟨fun e => Bool.noConfusion e, fun _ => other H1 (But.refl _ _) (P1.mono (by omega))⟩⟩))))))
  refine w_and1 (t_eq ?_)
  refine e_c cD hr (by decide) (a_cons (e_var 0 rfl (a_cons (e_int (a_nil ⟨p, L, n + 1, 4, rfl, P1, by omega, by decide, by decide, fun d2 H2 b2 P2 hd2 => e_int ⟨rfl, fun _ => ?_, fun _ => other H2 b2 P2⟩⟩)))))
  have hT2 := b2 _ _ nTp hT1
  have hL2 := b2 _ _ nLp hL1
  have td2 := td1.mono (Pen.tups P1 b2)
  refine l_one (s_app (e_var 10 rfl ⟨⟨T, _, rfl, .inl (.inl hT2)⟩, e_tup (a_cons (e_str (a_cons (e_ixL (e_var 5 rfl ?_)))))⟩))
  refine e_c cD hr (by decide) (a_cons (e_var 0 rfl (a_cons (e_len G.len (e_var 5 rfl ⟨Lb, _, rfl, .inl (.inl (.inl hL2)), a_nil ⟨p, L, n + 2, _, rfl, P2, by omega, by rw [List.length_map]; omega, by rw [List.length_map]; omega, fun d3 H3 b3 P3 hd3 => ?_⟩⟩)))))
  rw [List.length_map] at hd3
  have hd4 : d3 < zs.length := by omega
  have nz := okz _ (List.getElem_mem hd4)
  refine ⟨Lb, _, d3, _, rfl, rfl, .inl (.inl (b3 _ _ nLp hL2)), at_map hd4, ?_⟩
  generalize zs[d3] = z at nz
  refine a_nil ⟨by show 2 ≤ sizeLine; decide, fun tp htp => ?_⟩
  have hT3 := b3 _ _ nTp hT2
  have td3 := td2.mono (Pen.tups P2 b3)
  have s5 := same_new (o := .tup [V.str "star", .str z]) htp
  refine ⟨T, tx, rfl, s5 _ _ hT3, Nat.lt_of_lt_of_le (show tx.length < 100 by omega) (by decide), ?_⟩
  refine k _ _ _ (tx ++ [.ref tp]) (td ++ [.tuple [.str "star", .str z]]) _ (But2.upd (fun x u n1 n2 e => s5 _ _ (b3 _ _ n1 (b2 _ _ n1 (b1 x u n1 e))))) (((P3.same s5).upd nTp nTL).mono (by omega)) upd_same ?_ ?_ ?_
  · exact ((td3.mono (My.Same.tups s5)).mono (Tup.set (s5 _ _ hT3))).snoc (.tup (by rw [upd_ne (ne_of_none hT3 htp).symm, upd_same]) (.cons (.str _) (.cons (.str _) .nil)))
  · intro x hx
    rcases List.mem_append.mp hx with hx | hx
    · exact okt x hx
    · have e : x = .tuple [.str "star", .str z] := by simpa using hx
      rw [e]; exact .inl ⟨_, rfl, ⟨z, rfl, nz⟩⟩
  · rw [List.length_append]; exact Nat.succ_le_succ lt
end
end K10

namespace K10
open PySem PySem.Spec PyProof.Rows L2 My
section
variable {P : Program} {w : World} {K : PySem.W.Frag} {mg : Str → Option Value} {base : Heap}
/-- one more condition -/
theorem st_cond {cdv : Value} {B : Around} {out : List Env} {s : Shared} {H H0 : Hp} {E : XK} {f : Addr} {D : Ends} (G : Bn mg) (cD : CalN P w K mg base 2 "_law_draw" spDraw) (cC : CalN P w K mg base 3 "_law_cell" (spCell K)) (cW : CalN P w K mg base 4 "_law_worths" spWorths) (hr : Room 9 (B.deeper (envOfC "_law_statement" (defScope sStatement) s.heap.objs.size f cdv)))
    {p L pl S Lb T C : Addr} {b : Bool} {t7 t8 t9 t11 t12 t13 : Option V} {n : Nat} {i : Nat} {cx : List V} {cd : List PyData} {zs : List Str} {body : List Stmt} (hb : body = (match defBody sStatement with | _ :: _ :: _ :: _ :: _ :: .For _ _ l _ _ :: _ => l | _ => []))
    (Pn : Pen H p L n) (hn : n + 600 < 2 ^ 40) (hi : i < 3)
    (hC : H C = some (.lst cx)) (hcd : DTs H cx cd) (okc : ∀ d ∈ cd, okCond d) (lc : cd.length ≤ i) (nCp : C ≠ p) (nCL : C ≠ L) (hL : H Lb = some (.lst (zs.map V.str))) (okz : ∀ z ∈ zs, nm z) (l0 : 0 < zs.length) (lz : zs.length ≤ 10) (nLp : Lb ≠ p)
    (k : ∀ (t12 : Option V) (cx : List V) (cd : List PyData) (H' : Hp), But2 p C H H' → Pen H' p L (n + 110) → H' C = some (.lst cx) → DTs H' cx cd → (∀ d ∈ cd, okCond d) → cd.length ≤ i + 1 →
      D.nx [some (.ref p), some (.ref pl), some (.int 3), some (.bl b), some (.ref S), some (.ref Lb), some (.int i), t7, t8, t9, some (.ref T), t11, t12, t13, some (.ref C), none] H') :
    WL (cxOf CX0 P w K mg base nSt "_law_statement" (defScope sStatement) f cdv B out s H0 E).nox body D [some (.ref p), some (.ref pl), some (.int 3), some (.bl b), some (.ref S), some (.ref Lb), some (.int i), t7, t8, t9, some (.ref T), t11, t12, t13, some (.ref C), none] H := by
  subst hb
  have lcx := hcd.length
  refine l_cons (s_set 12 (e_c cC hr (by decide) (a_cons (e_var 0 rfl (a_cons (e_var 5 rfl (a_nil ⟨p, L, Lb, n, zs, rfl, Pn, by omega, .inl (.inl hL), nLp, l0, by omega, okz, fun v d H1 b1 P1 hv hd => ?_⟩)))))) scStatement.nd)
  have hC1 := b1 _ _ nCp hC
  have hL1 := b1 _ _ nLp hL
  have cd1 := hcd.mono (Pen.tups Pn b1)
  have fin : ∀ (e : PyData) (H4 : Hp) (tp : Addr) (ys : List V), But p H1 H4 → Pen H4 p L (n + 110) → DTs H4 ys (match e with | .tuple es => es | _ => []) → (∃ es, e = .tuple es) → okCond e → H4 tp = none →
      D.nx [some (.ref p), some (.ref pl), some (.int 3), some (.bl b), some (.ref S), some (.ref Lb), some (.int i), t7, t8, t9, some (.ref T), t11, some v, t13, some (.ref C), none] (upd (upd H4 tp (.tup ys)) C (.lst (cx ++ [.ref tp]))) := by
    intro e H4 tp ys b4 P4 hys hes hok htp
    obtain ⟨es, rfl⟩ := hes
    have hC4 := b4 _ _ nCp hC1
    have s5 := same_new (o := .tup ys) htp
    refine k _ (cx ++ [.ref tp]) (cd ++ [.tuple es]) _ (But2.upd (fun x u n1 n2 e => s5 _ _ (b4 _ _ n1 (b1 x u n1 e)))) ((P4.same s5).upd nCp nCL) upd_same ?_ ?_ ?_
    · exact (((cd1.mono (Pen.tups P1 b4)).mono (My.Same.tups s5)).mono (Tup.set (s5 _ _ hC4))).snoc (.tup (by rw [upd_ne (ne_of_none hC4 htp).symm, upd_same]) ((DTs.mono (My.Same.tups s5) hys).mono (Tup.set (s5 _ _ hC4))))
    · intro x hx
      rcases List.mem_append.mp hx with hx | hx
      · exact okc x hx
      · have e : x = .tuple es := by simpa using hx
        rw [e]; exact hok
    · rw [List.length_append]; exact Nat.succ_le_succ lc
  have lt1 : cx.length < sizeLine := Nat.lt_of_lt_of_le (show cx.length < 100 by omega) (by decide)
  refine l_one (s_if (t_eq ?_))
  refine e_c cD hr (by decide) (a_cons (e_var 0 rfl (a_cons (e_int (a_nil ⟨p, L, n + 3, 2, rfl, P1, by omega, by decide, by decide, fun d2 H2 b2 P2 hd2 => e_int ⟨rfl, fun _ => ?_, fun _ => ?_⟩⟩)))))
  · have hC2 := b2 _ _ nCp hC1
    refine l_one (s_app (e_var 14 rfl ⟨⟨C, _, rfl, .inl (.inl hC2)⟩, e_tup (a_cons (e_str (a_cons (e_var 12 rfl (a_cons ?_)))))⟩))
    refine e_c cW hr (by decide) (a_cons (e_var 0 rfl (a_nil ⟨p, L, n + 4, rfl, P2, by omega, fun u ds H3 b3 P3 hu hl3 hok3 => a_nil ⟨by show 3 ≤ sizeLine; decide, fun tp htp => ?_⟩⟩)))
    have hC3 := b3 _ _ nCp hC2
    refine ⟨C, cx, rfl, same_new htp _ _ hC3, lt1, fin (.tuple [.str "in", d, .tuple ds]) H3 tp _ (b2.trans b3) (P3.mono (by omega)) (.cons (.str _) (.cons ((hv.mono (Pen.tups P1 b2)).mono (Pen.tups P2 b3)) (.cons hu .nil))) ⟨_, rfl⟩ (.inr ⟨d, ds, rfl, hd, hl3, hok3⟩) htp⟩
  · have hC2 := b2 _ _ nCp hC1
    have hL2 := b2 _ _ nLp hL1
    refine l_one (s_app (e_var 14 rfl ⟨⟨C, _, rfl, .inl (.inl hC2)⟩, e_tup (a_cons (e_str (a_cons (e_var 12 rfl (a_cons ?_)))))⟩))
    refine e_c cC hr (by decide) (a_cons (e_var 0 rfl (a_cons (e_var 5 rfl (a_nil ⟨p, L, Lb, n + 4, zs, rfl, P2, by omega, .inl (.inl hL2), nLp, l0, by omega, okz, fun u d3 H3 b3 P3 hu hd3 => a_nil ⟨by show 3 ≤ sizeLine; decide, fun tp htp => ?_⟩⟩)))))
    have hC3 := b3 _ _ nCp hC2
    refine ⟨C, cx, rfl, same_new htp _ _ hC3, lt1, fin (.tuple [.str "equal", d, d3]) H3 tp _ (b2.trans b3) (P3.mono (by omega)) (.cons (.str _) (.cons ((hv.mono (Pen.tups P1 b2)).mono (Pen.tups P2 b3)) (.cons hu .nil))) ⟨_, rfl⟩ (.inl ⟨d, d3, rfl, hd, hd3⟩) htp⟩
theorem never {X : Cx} (hc : PassesOwn (model X.prog X.w) X.A X.env X.xe) : PassesOwn (model X.prog X.w) X.A X.env X.xe := hc
theorem ok_statement {f : Addr} {fd : FuncData} (F : Fun K "_law_statement" "_law_statement" sStatement f fd) (G : Bn mg) (cD : CalN P w K mg base 2 "_law_draw" spDraw) (cT : CalN P w K mg base 7 "_law_term" (spLTermA K)) (cC : CalN P w K mg base 3 "_law_cell" (spCell K)) (cW : CalN P w K mg base 4 "_law_worths" spWorths) : FnOk P w K mg base CX0 10 f fd ["_law_pen_here", "_law_places", "_law_most", "_law_is_inner"] spStatement := by
  refine Fun.okW F scStatement (fun vs H Q E h => by obtain ⟨a, b, c, d, e, g, i, rfl, _⟩ := h; rfl) (fun cdv B out s H vs Q E hr h => ?_)
  obtain ⟨p, L, pl, n, xs, ds, b, rfl, Pn, hn, hpl, hds, npl, d0, d1, okd, q⟩ := h
  -- two lists
  refine l_cons (s_par 4 5 (a_cons (e_lst (a_nil ⟨Nat.zero_le _, fun S hS => a_cons (e_lst (a_nil ⟨Nat.zero_le _, fun Lb hLb => a_nil ⟨_, _, rfl, ?_⟩⟩))⟩))) scStatement.nd (by decide))
  have nSp := Pn.newP hS
  have nSL := Pn.newL hS
  have P1 := Pn.same (same_new (o := .lst []) hS)
  have nLp := P1.newP hLb
  have nLL := P1.newL hLb
  have nSLb : S ≠ Lb := ne_of_none upd_same hLb
  have sHL := (same_new (o := .lst []) hS).trans (same_new (o := .lst []) hLb)
  have P2 := P1.same (same_new (o := .lst []) hLb)
  have hS2 : (upd (upd H S (.lst [])) Lb (.lst [])) S = some (.lst []) := by rw [upd_ne nSLb]; exact upd_same
  have hL2 : (upd (upd H S (.lst [])) Lb (.lst [])) Lb = some (.lst []) := upd_same
  have hLbH : H Lb = none := (same_new hS).free hLb
  have hpl2 := sHL _ _ hpl
  have hds2 := hds.mono (My.Same.tups sHL)
  have nplS : pl ≠ S := ne_of_none hpl hS
  have nplL : pl ≠ Lb := ne_of_none hpl hLbH
  generalize (upd (upd H S (.lst [])) Lb (.lst [])) = H2 at P2 hS2 hL2 sHL hpl2 hds2
  -- the sources
  refine l_cons (s_forR G.range (pg_name (i := 6) scStatement.nd rfl (.inl rfl)) (e_addI (e_int ?_)) PassesOwn.never)
  refine e_c cD hr (by decide) (a_cons (e_var 0 rfl (a_cons (e_var 2 rfl (a_nil ⟨p, L, n, 3, rfl, P2, by omega, by decide, by decide, fun dm H3 b3 P3 hdm => ?_⟩)))))
  refine ⟨1, dm, rfl, rfl, dm + 1, by rw [show (1 : Int) + (dm : Int) = ((dm + 1 : Nat) : Int) by omega], by omega, fun i σ H4 => ∃ (t6 t7 t8 t9 : Option V) (sx : List V) (sd : List PyData) (zs : List Str),
    σ = [some (.ref p), some (.ref pl), some (.int 3), some (.bl b), some (.ref S), some (.ref Lb), t6, t7, t8, t9, none, none, none, none, none, none] ∧ But3 p S Lb H2 H4 ∧ Pen H4 p L (n + 1 + i * 4) ∧ H4 S = some (.lst sx) ∧ DTs H4 sx sd ∧ (∀ d ∈ sd, okSrc d) ∧ sd.length ≤ i ∧
    H4 Lb = some (.lst (zs.map V.str)) ∧ (∀ z ∈ zs, nm z) ∧ zs.length ≤ i ∧ (0 < i → 0 < zs.length), ?_, ?_, ?_⟩
  · exact ⟨none, none, none, none, [], [], [], rfl, fun c o n1 _ _ e => b3 c o n1 e, P3.mono (by omega), b3 _ _ nSp hS2, .nil, fun d h => (by cases h), Nat.le_refl _, b3 _ _ nLp hL2, fun z h => (by cases h), Nat.le_refl _, fun h => absurd h (by decide)⟩
  · rintro i σ H4 hi ⟨t6, t7, t8, t9, sx, sd, zs, rfl, k1, k2, k3, k4, k5, k6, k7, k8, k9, k10⟩
    have hi3 : i < 3 := by omega
    have hp2 := P2.p
    obtain ⟨xp, hp2⟩ := hp2
    have tu := k1.tups hp2 hS2 hL2
    refine st_source (t7 := t7) (t8 := t8) (t9 := t9) (b := b) G cD hr rfl k2 (by have : i * 4 ≤ 12 := by omega
                                                                                  omega) hi3 (k1 _ _ npl nplS nplL hpl2) (hds2.mono tu) npl d0 d1 okd k3 k4 k5 k6 nSp nSL k7 k8 k9 nLp nLL nSLb nplS nplL ?_
    intro t7' t8' t9' sx' sd' zs' H5 j1 j2 j3 j4 j5 j6 j7 j8 j9 j10
    exact ⟨_, t7', t8', t9', sx', sd', zs', rfl, fun c o n1 n2 n3 e => j1 c o n1 n2 n3 (k1 c o n1 n2 n3 e), j2.mono (by omega), j3, j4, j5, j6, j7, j8, j9, fun _ => j10⟩
  rintro σ H4 ⟨t6, t7, t8, t9, sx, sd, zs, rfl, k1, k2, k3, k4, k5, k6, k7, k8, k9, k10⟩
  have l0 := k10 (by omega)
  have k2' : Pen H4 p L (n + 13) := k2.mono (by omega)
  have bH4 : But p H H4 := fun c o n1 e => k1 c o n1 (ne_of_none e hS) (ne_of_none e hLbH) (sHL c o e)
  have ls : sd.length ≤ 8 := by omega
  -- told
  refine l_cons (s_set 10 (e_lst (a_nil ⟨Nat.zero_le _, fun T hT => ?_⟩)) scStatement.nd)
  have nTp := k2'.newP hT
  have nTL := k2'.newL hT
  have sT := same_new (o := .lst []) hT
  have P5 := k2'.same sT
  have hT5 : (upd H4 T (.lst [])) T = some (.lst []) := upd_same
  have hS5 := sT _ _ k3
  have hL5 := sT _ _ k7
  have hsd5 := k4.mono (My.Same.tups sT)
  have nST : S ≠ T := ne_of_none k3 hT
  have nLT : Lb ≠ T := ne_of_none k7 hT
  have bH5 : But p H (upd H4 T (.lst [])) := bH4.trans (But.of sT)
  have hTH : H T = none := bH4.free nTp hT
  generalize (upd H4 T (.lst [])) = H5 at P5 hT5 hS5 hL5 hsd5 bH5
  refine l_cons (s_forR G.range (pg_name (i := 6) scStatement.nd rfl (.inl rfl)) (e_addI (e_int ?_)) PassesOwn.never)
  refine e_c cD hr (by decide) (a_cons (e_var 0 rfl (a_cons (e_int (a_nil ⟨p, L, n + 13, 3, rfl, P5, by omega, by decide, by decide, fun dt H6 b6 P6 hdt => ?_⟩)))))
  refine ⟨1, dt, rfl, rfl, dt + 1, by rw [show (1 : Int) + (dt : Int) = ((dt + 1 : Nat) : Int) by omega], by omega, fun i σ H7 => ∃ (t6 t11 t12 t13 : Option V) (tx : List V) (td : List PyData),
    σ = [some (.ref p), some (.ref pl), some (.int 3), some (.bl b), some (.ref S), some (.ref Lb), t6, t7, t8, t9, some (.ref T), t11, t12, t13, none, none] ∧ But2 p T H5 H7 ∧ Pen H7 p L (n + 14 + i * 100) ∧ H7 T = some (.lst tx) ∧ DTs H7 tx td ∧ (∀ d ∈ td, okTold d) ∧ td.length ≤ i, ?_, ?_, ?_⟩
  · exact ⟨_, none, none, none, [], [], rfl, fun c o n1 _ e => b6 c o n1 e, P6.mono (by omega), b6 _ _ nTp hT5, .nil, fun d h => (by cases h), Nat.le_refl _⟩
  · rintro i σ H7 hi ⟨t6, t11, t12, t13, tx, td, rfl, m1, m2, m3, m4, m5, m6⟩
    refine st_told (b := b) G cD cT hr rfl m2 (by have : i * 100 ≤ 200 := by omega
                                                  omega) (by omega) m3 m4 m5 m6 nTp nTL (m1 _ _ nLp nLT hL5) k8 l0 (by omega) nLp nLT ?_
    intro t11' t12' t13' tx' td' H8 j1 j2 j3 j4 j5 j6
    exact ⟨_, t11', t12', t13', tx', td', rfl, fun c o n1 n2 e => j1 c o n1 n2 (m1 c o n1 n2 e), j2.mono (by omega), j3, j4, j5, j6⟩
  rintro σ H7 ⟨t6', t11, t12, t13, tx, td, rfl, m1, m2, m3, m4, m5, m6⟩
  have m2' : Pen H7 p L (n + 314) := m2.mono (by omega)
  obtain ⟨xp5, hp5⟩ := P5.p
  have tu7 := m1.tups hp5 hT5
  have hS7 := m1 _ _ nSp nST hS5
  have hL7 := m1 _ _ nLp nLT hL5
  have hsd7 := hsd5.mono tu7
  have bH7 : But p H H7 := fun c o n1 e => m1 c o n1 (ne_of_none e hTH) (bH5 c o n1 e)
  -- conditions
  refine l_cons (s_set 14 (e_lst (a_nil ⟨Nat.zero_le _, fun C hC => ?_⟩)) scStatement.nd)
  have nCp := m2'.newP hC
  have nCL := m2'.newL hC
  have sC := same_new (o := .lst []) hC
  have P8 := m2'.same sC
  have hC8 : (upd H7 C (.lst [])) C = some (.lst []) := upd_same
  have hS8 := sC _ _ hS7
  have hL8 := sC _ _ hL7
  have hT8 := sC _ _ m3
  have hsd8 := hsd7.mono (My.Same.tups sC)
  have htd8 := m4.mono (My.Same.tups sC)
  have nSC : S ≠ C := ne_of_none hS7 hC
  have nLC : Lb ≠ C := ne_of_none hL7 hC
  have nTC : T ≠ C := ne_of_none m3 hC
  have bH8 : But p H (upd H7 C (.lst [])) := bH7.trans (But.of sC)
  have hCH : H C = none := bH7.free nCp hC
  generalize (upd H7 C (.lst [])) = H8 at P8 hC8 hS8 hL8 hT8 hsd8 htd8 bH8
  refine l_cons (s_forR G.range (pg_name (i := 6) scStatement.nd rfl (.inl rfl)) ?_ PassesOwn.never)
  refine e_c cD hr (by decide) (a_cons (e_var 0 rfl (a_cons (e_int (a_nil ⟨p, L, n + 314, 3, rfl, P8, by omega, by decide, by decide, fun dc H9 b9 P9 hdc => ?_⟩)))))
  refine ⟨dc, rfl, by omega, fun i σ H10 => ∃ (t6 t12 : Option V) (cx : List V) (cd : List PyData),
    σ = [some (.ref p), some (.ref pl), some (.int 3), some (.bl b), some (.ref S), some (.ref Lb), t6, t7, t8, t9, some (.ref T), t11, t12, t13, some (.ref C), none] ∧ But2 p C H8 H10 ∧ Pen H10 p L (n + 315 + i * 110) ∧ H10 C = some (.lst cx) ∧ DTs H10 cx cd ∧ (∀ d ∈ cd, okCond d) ∧ cd.length ≤ i, ?_, ?_, ?_⟩
  · exact ⟨_, _, [], [], rfl, fun c o n1 _ e => b9 c o n1 e, P9.mono (by omega), b9 _ _ nCp hC8, .nil, fun d h => (by cases h), Nat.le_refl _⟩
  · rintro i σ H10 hi ⟨t6, t12, cx, cd, rfl, r1, r2, r3, r4, r5, r6⟩
    refine st_cond (b := b) G cD cC cW hr rfl r2 (by have : i * 110 ≤ 220 := by omega
                                                     omega) (by omega) r3 r4 r5 r6 nCp nCL (r1 _ _ nLp nLC hL8) k8 l0 (by omega) nLp ?_
    intro t12' cx' cd' H11 j1 j2 j3 j4 j5 j6
    exact ⟨_, t12', cx', cd', rfl, fun c o n1 n2 e => j1 c o n1 n2 (r1 c o n1 n2 e), j2.mono (by omega), j3, j4, j5, j6⟩
  rintro σ H10 ⟨t6'', t12', cx, cd, rfl, r1, r2, r3, r4, r5, r6⟩
  have r2' : Pen H10 p L (n + 700) := r2.mono (by omega)
  obtain ⟨xp8, hp8⟩ := P8.p
  have tu10 := r1.tups hp8 hC8
  have hS10 := r1 _ _ nSp nSC hS8
  have hT10 := r1 _ _ nTp nTC hT8
  have hsd10 := hsd8.mono tu10
  have htd10 := htd8.mono tu10
  have bH10 : But p H H10 := fun c o n1 e => r1 c o n1 (ne_of_none e hCH) (bH8 c o n1 e)
  -- the end
  refine l_cons (WS.cut (P := fun σ H11 => ∃ e : Bool, σ = [some (.ref p), some (.ref pl), some (.int 3), some (.bl b), some (.ref S), some (.ref Lb), t6'', t7, t8, t9, some (.ref T), t11, t12', t13, some (.ref C), some (.bl e)] ∧ But p H10 H11 ∧ Pen H11 p L (n + 701)) (s_set 15 (e_and (e_not (e_var 3 rfl ⟨b, rfl, !b, rfl, fun _ => e_one (e_cmp op_eq ?_), fun _ => ⟨false, rfl, But.refl _ _, r2'.mono (by omega)⟩⟩))) scStatement.nd) ?_)
  · exact e_c cD hr (by decide) (a_cons (e_var 0 rfl (a_cons (e_int (a_nil ⟨p, L, n + 700, 3, rfl, r2', by omega, by decide, by decide, fun d11 H11 b11 P11 hd11 => e_int ⟨rfl, _, rfl, b11, P11⟩⟩)))))
  rintro σ H11 ⟨e, rfl, b11, P11⟩
  have hS11 := b11 _ _ nSp hS10
  have hT11 := b11 _ _ nTp hT10
  have hC11 := b11 _ _ nCp r3
  have tu11 := Pen.tups r2' b11
  refine l_one (s_ret (e_tup (a_cons (e_var 15 rfl (a_cons (e_tupL G.tuple (e_var 10 rfl ⟨T, tx, rfl, .inl (.inl hT11), fun a1 h1 => ?_⟩)))))))
  have s1 := same_new (o := .tup tx) h1
  refine a_cons (e_tupL G.tuple (e_var 4 rfl ⟨S, sx, rfl, .inl (.inl (s1 _ _ hS11)), fun a2 h2 => ?_⟩))
  have s2 := same_new (o := .tup sx) h2
  refine a_cons (e_tupL G.tuple (e_var 14 rfl ⟨C, cx, rfl, .inl (.inl (s2 _ _ (s1 _ _ hC11))), fun a3 h3 => ?_⟩))
  have s3 := same_new (o := .tup cx) h3
  refine a_nil ⟨by show 4 ≤ sizeLine; decide, fun a4 h4 => ?_⟩
  have s4 := same_new (o := .tup [V.bl e, .ref a1, .ref a2, .ref a3]) h4
  have s14 := s1.trans (s2.trans (s3.trans s4))
  have tt := tu11.trans (My.Same.tups s14)
  refine q _ (.tuple [.bool e, .tuple td, .tuple sd, .tuple cd]) _ (bH10.trans (b11.trans (But.of s14))) ((P11.same s14).mono (by omega)) (.tup upd_same (.cons (.bl e) (.cons (.tup (s4 _ _ (s3 _ _ (s2 _ _ upd_same))) (htd10.mono tt)) (.cons (.tup (s4 _ _ (s3 _ _ upd_same)) (hsd10.mono tt)) (.cons (.tup (s4 _ _ upd_same) (r4.mono tt)) .nil))))) ⟨e, td, sd, cd, rfl, ⟨by omega, m5⟩, ⟨by omega, k5⟩, ⟨by omega, r5⟩⟩
end
end K10

namespace K10
open PySem PySem.Spec PyProof.Rows L2 My
theorem cut_take (xs : List V) (k : Nat) : cutV xs none (some (k : Int)) = xs.take k := by
  unfold cutV
  rw [HT.sIx_none, HT.sIx_nat, List.drop_zero, Nat.sub_zero]
  by_cases h : k ≤ xs.length
  · rw [Nat.min_eq_left h]
  · rw [Nat.min_eq_right (by omega), List.take_length, List.take_of_length_le (by omega)]
section
variable {X : Cx} {es : List Expr} {σ : L2.St} {H : Hp} {U : List V → Hp → Prop} {pos : Pos}
theorem a_str {z : Str} {j} (h : WA X es σ H fun xs H2 => U (.str z :: xs) H2) : WA X (.Constant (.str z) j pos :: es) σ H U := a_cons (e_str h) rfl
end
section
variable {X : Cx} {e h : Expr} {σ : L2.St} {H : Hp} {Q : VK} {pos p2 : Pos}
/-- e[:k] of a tuple, the whole of it or less -/
theorem e_slK (k : WE X e σ H fun x H1 => WE X h σ H1 fun y H2 => ∃ (i : Nat) (a : Addr) (xs : List V), y = .int i ∧ x = .ref a ∧ H2 a = some (.tup xs) ∧ ∀ q H3, Same H2 H3 → H3 q = some (.tup (xs.take i)) → Q (.ref q) H3) :
    WE X (.Subscript e (.Slice none (some h) none p2) pos) σ H Q :=
  toE (pe_slice sl_tupA pE po_none (po_some pE)) (WE.mono k fun x H1 k1 => WE.mono k1 fun y H2 ⟨i, a, xs, e1, e2, ha, q⟩ => ⟨(i : Int), e1, a, xs, e2, .inl (.inl ha), fun hw => q a H2 (Same.refl _) (by
    have h2 := hw.2
    rw [HT.sIx_nat] at h2
    rw [List.take_of_length_le (by omega)]
    exact ha), fun _ p hp => q p _ (same_new hp) (by rw [upd_same, cut_take])⟩)
end
abbrev sOdd : Stmt := top 24
abbrev nOdd : List Str := ["_law_pen_here", "_law_nyms", "_law_label", "_law_other", "_law_cells", "_law_call_here", "_law_inner", "_law_told", "_law_sources_here", "_law_asks_here", "_law_some_here", "_law_turn"]
def spOdd : Sp := fun vs H Q _ => ∃ (p L : Addr) (n : Nat), vs = [.ref p] ∧ Pen H p L n ∧ n + 3000 < 2 ^ 40 ∧ ∀ (v : V) (d : PyData) (H' : Hp), But p H H' → Pen H' p L (n + 1000) → DT H' v d → okSt d → Q v H'
abbrev nyms0 : List Str := ["star", "call", "equal", "columns", "a", "or", "fromm", "selec", "ast", "id", "t", "wher"]
abbrev ps0 : List Str := ["p", "q"]
abbrev nyms1 : List Str := ["star", "call", "equal", "columns", "a", "or", "fromm", "selec", "ast", "id", "t", "wher", "distinc", "values"]
section
variable {P : Program} {w : World} {K : PySem.W.Frag} {mg : Str → Option Value} {base : Heap}
theorem scOdd : FnScope nOdd ["_law_pen_here"] (defScope sOdd) := ⟨rfl, rfl, rfl, by decide +kernel, rfl, by decide +kernel, by decide +kernel⟩
theorem ok_odd {f : Addr} {fd : FuncData} (F : Fun K "_law_odd_statement" "_law_odd_statement" sOdd f fd) (G : Bn mg) (cD : CalN P w K mg base 2 "_law_draw" spDraw) (cS : CalN P w K mg base 3 "_law_some" (spSome K)) : FnOk P w K mg base CX0 4 f fd ["_law_pen_here"] spOdd := by
  refine Fun.okW F scOdd (fun vs H Q E h => by obtain ⟨a, b, c, rfl, _⟩ := h; rfl) (fun cdv B out s H vs Q E hr h => ?_)
  obtain ⟨p, L, n, rfl, Pn, hn, q⟩ := h
  -- the names
  refine l_cons ?_
  with_reducible refine s_set 1 ?k1 ?nd1 ?hi1 ?hx1 ?hs1 ?hf1
  case nd1 => exact scOdd.nd
  case hi1 => rfl
  case hx1 => first | exact Or.inl rfl | exact Or.inr rfl
  case hs1 => rfl
  case hf1 => first | exact .inl rfl | exact .inr rfl
  refine e_lst ?_
  iterate 12 refine a_str ?_
  refine a_nil ⟨by show 12 ≤ sizeLine; decide, fun y1 hy1 => ?_⟩
  have sA := same_new (o := .lst (nyms0.map V.str)) hy1
  refine l_cons ?_
  with_reducible refine s_set 1 ?k2 ?nd2 ?hi2 ?hx2 ?hs2 ?hf2
  case nd2 => exact scOdd.nd
  case hi2 => rfl
  case hx2 => first | exact Or.inl rfl | exact Or.inr rfl
  case hs2 => rfl
  case hf2 => first | exact .inl rfl | exact .inr rfl
  refine e_cat (e_var 1 rfl (e_lst ?_))
  iterate 2 refine a_str ?_
  refine a_nil ⟨by show 2 ≤ sizeLine; decide, fun y2 hy2 => ⟨y1, y2, _, _, rfl, rfl, by rw [upd_ne (ne_of_none upd_same hy2)]; exact upd_same, upd_same, by show 14 ≤ sizeLine; decide, fun ny hny => ?_⟩⟩
  have sB := (sA.trans (same_new hy2)).trans (same_new (o := .lst (nyms1.map V.str)) hny)
  have P1 := Pn.same sB
  have hN1 : (upd (upd (upd H y1 (.lst (nyms0.map V.str))) y2 (.lst [V.str "distinc", .str "values"])) ny (.lst (nyms1.map V.str))) ny = some (.lst (nyms1.map V.str)) := upd_same
  have nNp : ny ≠ p := (Pn.same (sA.trans (same_new hy2))).newP hny
  show WL _ _ _ [some (.ref p), some (.ref ny), none, none, none, none, none, none, none, none, none, none] (upd (upd (upd H y1 (.lst (nyms0.map V.str))) y2 (.lst [V.str "distinc", .str "values"])) ny (.lst (nyms1.map V.str)))
  generalize (upd (upd (upd H y1 (.lst (nyms0.map V.str))) y2 (.lst [V.str "distinc", .str "values"])) ny (.lst (nyms1.map V.str))) = H1 at sB P1 hN1
  -- label, other
  refine l_cons (s_par 2 3 (a_cons (e_cat ?_)) scOdd.nd (by decide))
  refine e_c cS hr (by decide) (a_cons (e_var 0 rfl (a_cons (e_var 1 rfl (a_cons (e_int (a_nil ⟨p, L, ny, n, 2, nyms1, rfl, P1, by omega, .inl (.inl hN1), nNp, by decide, by decide, fun q1 ys H2 b2 P2 hq1 hq2 hl2 hy => ?_⟩)))))))
  refine e_lst ?_
  iterate 2 refine a_str ?_
  refine a_nil ⟨by show 2 ≤ sizeLine; decide, fun q2 hq3 => ⟨q1, q2, _, _, rfl, rfl, same_new hq3 _ _ hq2, upd_same, ?_, fun lb hlb => ?_⟩⟩
  · rw [List.length_map]
    show ys.length + 2 ≤ sizeLine
    exact Nat.le_trans (show _ ≤ 4 by omega) (by decide)
  have s3 := (same_new (o := .lst [V.str "p", .str "q"]) hq3).trans (same_new (o := .lst (ys.map V.str ++ [V.str "p", .str "q"])) hlb)
  have eLb : ys.map V.str ++ [V.str "p", .str "q"] = (ys ++ ps0).map V.str := by rw [List.map_append]; rfl
  have hlab : ∀ z ∈ ys ++ ps0, nm z := fun z hz => by
    rcases List.mem_append.mp hz with hz | hz
    · exact nms_of (zs := nyms1) (by decide +kernel) z (hy z hz)
    · exact nms_of (zs := ps0) (by decide +kernel) z hz
  have llab : 2 ≤ (ys ++ ps0).length := by rw [List.length_append]; show 2 ≤ ys.length + 2; omega
  have P3 := P2.same s3
  have nlp : lb ≠ p := (P2.same (same_new hq3)).newP hlb
  have hlb3 : (upd (upd H2 q2 (.lst [V.str "p", .str "q"])) lb (.lst (ys.map V.str ++ [V.str "p", .str "q"]))) lb = some (.lst ((ys ++ ps0).map V.str)) := by rw [upd_same, eLb]
  have hN3 := s3 _ _ (b2 _ _ nNp hN1)
  have bH3 : But p H _ := (But.of sB).trans (b2.trans (But.of s3))
  generalize (upd (upd H2 q2 (.lst [V.str "p", .str "q"])) lb (.lst (ys.map V.str ++ [V.str "p", .str "q"]))) = H3 at P3 hlb3 hN3 bH3
  generalize ys ++ ps0 = lab at hlab llab hlb3
  refine a_cons (e_ixL (e_var 1 rfl ?_))
  refine e_c cD hr (by decide) (a_cons (e_var 0 rfl (a_cons (e_len G.len (e_var 1 rfl ⟨ny, _, rfl, .inl (.inl (.inl hN3)), a_nil ⟨p, L, n + 100, _, rfl, P3, by omega, by decide, by decide, fun d H4 b4 P4 hd => ?_⟩⟩)))))
  have hd4 : d < nyms1.length := by show d < 14; have : (d : Int) < 14 := hd; omega
  refine ⟨ny, nyms1.map V.str, d, _, rfl, rfl, .inl (.inl (b4 _ _ nNp hN3)), at_map hd4, a_nil ⟨_, _, rfl, ?_⟩⟩
  have no := nms_of (zs := nyms1) (by decide +kernel) _ (List.getElem_mem hd4)
  generalize nyms1[d] = o at no
  have hlb4 := b4 _ _ nlp hlb3
  have bH4 := bH3.trans b4
  have l1 : 1 < lab.length := llab
  have l0 : 0 < lab.length := by omega
  have n0 := hlab _ (List.getElem_mem l0)
  have n1 := hlab _ (List.getElem_mem l1)
  have a0 : atI (lab.map V.str) 0 = some (.str lab[0]) := at_map (d := 0) l0
  have a1 : atI (lab.map V.str) 1 = some (.str lab[1]) := at_map (d := 1) l1
  generalize lab[0] = z0 at n0 a0
  generalize lab[1] = z1 at n1 a1
  generalize lab.map V.str = lbx at hlb4 a0 a1
  -- cells
  refine l_cons ?_
  with_reducible refine s_set 4 ?k3 ?nd3 ?hi3 ?hx3 ?hs3 ?hf3
  case nd3 => exact scOdd.nd
  case hi3 => rfl
  case hx3 => first | exact Or.inl rfl | exact Or.inr rfl
  case hs3 => rfl
  case hf3 => first | exact .inl rfl | exact .inr rfl
  refine e_lst (a_cons (e_tup (a_cons (e_non (a_cons (e_var 3 rfl (a_nil ⟨by show 2 ≤ sizeLine; decide, fun c0 hc0 => ?_⟩)))))))
  have g0 := same_new (o := .tup [V.non, .str o]) hc0
  refine a_cons (e_tup (a_cons (e_ixL (e_var 2 rfl (e_int ⟨lb, _, 0, _, rfl, rfl, .inl (.inl (g0 _ _ hlb4)), a0, a_cons (e_var 3 rfl (a_nil ⟨by show 2 ≤ sizeLine; decide, fun c1 hc1 => ?_⟩))⟩)))))
  have g1 := g0.trans (same_new (o := .tup [V.str z0, .str o]) hc1)
  refine a_cons (e_tup (a_cons (e_ixL (e_var 2 rfl (e_int ⟨lb, _, 1, _, rfl, rfl, .inl (.inl (g1 _ _ hlb4)), a1, a_cons (e_ixL (e_var 2 rfl (e_int ⟨lb, _, 0, _, rfl, rfl, .inl (.inl (g1 _ _ hlb4)), a0, a_nil ⟨by show 2 ≤ sizeLine; decide, fun c2 hc2 => ?_⟩⟩)))⟩)))))
  have g2 := g1.trans (same_new (o := .tup [V.str z1, .str z0]) hc2)
  refine a_nil ⟨by show 3 ≤ sizeLine; decide, fun cl hcl => ?_⟩
  have g3 := g2.trans (same_new (o := .lst [V.ref c0, .ref c1, .ref c2]) hcl)
  have P5 := P4.same g3
  have hlb5 := g3 _ _ hlb4
  have nclp : cl ≠ p := (P4.same g2).newP hcl
  have t2 : My.Tup _ _ := Tup.new (o := .lst [V.ref c0, .ref c1, .ref c2]) hcl
  have e2 := same_new (o := .tup [V.str z1, .str z0]) hc2
  have e1 := same_new (o := .tup [V.str z0, .str o]) hc1
  have D0 := (DT.tup (ds := [.none, .str o]) (e2 _ _ (e1 _ _ upd_same)) (.cons .non (.cons (.str _) .nil))).mono t2
  have D1 := (DT.tup (ds := [.str z0, .str o]) (e2 _ _ upd_same) (.cons (.str _) (.cons (.str _) .nil))).mono t2
  have D2 := (DT.tup (ds := [.str z1, .str z0]) (H := upd _ c2 (.tup [V.str z1, .str z0])) upd_same (.cons (.str _) (.cons (.str _) .nil))).mono t2
  have hcl5 : (upd (upd (upd (upd H4 c0 (.tup [V.non, .str o])) c1 (.tup [V.str z0, .str o])) c2 (.tup [V.str z1, .str z0])) cl (.lst [V.ref c0, .ref c1, .ref c2])) cl = some (.lst [V.ref c0, .ref c1, .ref c2]) := upd_same
  have bH5 := bH4.trans (But.of g3)
  have k0 : okC (.tuple [.none, .str o]) := ⟨_, _, rfl, .inl rfl, ⟨o, rfl, no⟩⟩
  have k1 : okC (.tuple [.str z0, .str o]) := ⟨_, _, rfl, .inr ⟨z0, rfl, n0⟩, ⟨o, rfl, no⟩⟩
  have k2 : okC (.tuple [.str z1, .str z0]) := ⟨_, _, rfl, .inr ⟨z1, rfl, n1⟩, ⟨z0, rfl, n0⟩⟩
  generalize (upd (upd (upd (upd H4 c0 (.tup [V.non, .str o])) c1 (.tup [V.str z0, .str o])) c2 (.tup [V.str z1, .str z0])) cl (.lst [V.ref c0, .ref c1, .ref c2])) = H5 at P5 hlb5 D0 D1 D2 hcl5 bH5
  -- the call
  refine l_cons ?_
  with_reducible refine s_set 5 ?k4 ?nd4 ?hi4 ?hx4 ?hs4 ?hf4
  case nd4 => exact scOdd.nd
  case hi4 => rfl
  case hx4 => first | exact Or.inl rfl | exact Or.inr rfl
  case hs4 => rfl
  case hf4 => first | exact .inl rfl | exact .inr rfl
  refine e_tup (a_cons (e_str (a_cons (e_ixL (e_lst (a_cons (e_non (a_cons (e_var 3 rfl (a_nil ⟨by show 2 ≤ sizeLine; decide, fun l1' hl1 => ?_⟩))))))))))
  have f1 := same_new (o := .lst [V.non, .str o]) hl1
  refine e_c cD hr (by decide) (a_cons (e_var 0 rfl (a_cons (e_int (a_nil ⟨p, L, n + 101, 2, rfl, P5.same f1, by omega, by decide, by decide, fun d6 H6 b6 P6 hd6 => ?_⟩)))))
  have hl6 : d6 < ([V.non, .str o] : List V).length := by show d6 < 2; omega
  refine ⟨l1', _, d6, _, rfl, rfl, .inl (.inl (b6 _ _ (P5.newP hl1) upd_same)), at_some hl6, ?_⟩
  obtain ⟨es, hes, oks⟩ := pick (H := H6) (ds := [.none, .str o]) (ok := okO) (d := d6) (.cons .non (.cons (.str _) .nil)) hl6 (fun x hx => by
    simp only [List.mem_cons, List.not_mem_nil, or_false] at hx
    rcases hx with rfl | rfl
    · exact .inl rfl
    · exact .inr ⟨o, rfl, no⟩)
  generalize ([V.non, .str o] : List V)[d6] = vs at hes
  have b56 : But p H5 H6 := (But.of f1).trans b6
  have u56 := Pen.tups P5 b56
  refine a_cons (e_ixL (e_var 2 rfl (e_int ⟨lb, _, 0, _, rfl, rfl, .inl (.inl (b56 _ _ nlp hlb5)), a0, a_cons (e_tup (a_cons (e_ixL (e_var 4 rfl ?_))))⟩)))
  refine e_c cD hr (by decide) (a_cons (e_var 0 rfl (a_cons (e_int (a_nil ⟨p, L, n + 102, 3, rfl, P6, by omega, by decide, by decide, fun d7 H7 b7 P7 hd7 => ?_⟩)))))
  have b57 := b56.trans b7
  have u57 := Pen.tups P5 b57
  have hl7 : d7 < ([V.ref c0, .ref c1, .ref c2] : List V).length := by show d7 < 3; omega
  refine ⟨cl, _, d7, _, rfl, rfl, .inl (.inl (b57 _ _ nclp hcl5)), at_some hl7, ?_⟩
  obtain ⟨ec, hec, okc⟩ := pick (H := H7) (ds := [.tuple [.none, .str o], .tuple [.str z0, .str o], .tuple [.str z1, .str z0]]) (ok := okC) (d := d7) (.cons (D0.mono u57) (.cons (D1.mono u57) (.cons (D2.mono u57) .nil))) hl7 (fun x hx => by
    simp only [List.mem_cons, List.not_mem_nil, or_false] at hx
    rcases hx with rfl | rfl | rfl <;> assumption)
  generalize ([V.ref c0, .ref c1, .ref c2] : List V)[d7] = vc at hec
  refine a_cons (e_str (a_nil ⟨by show 2 ≤ sizeLine; decide, fun r1 hr1 => a_nil ⟨by show 4 ≤ sizeLine; decide, fun r2 hr2 => ?_⟩⟩))
  have m1 := (same_new (o := .tup [vc, .str "where"]) hr1).trans (same_new (o := .tup [V.str "call", vs, .str z0, .ref r1]) hr2)
  have P8 := P7.same m1
  have b58 := b57.trans (But.of m1)
  have u58 := Pen.tups P5 b58
  have nw : nm "where" := nm_of (by decide +kernel)
  have DC : DT (upd (upd H7 r1 (.tup [vc, .str "where"])) r2 (.tup [V.str "call", vs, .str z0, .ref r1])) (.ref r2) (.tuple [.str "call", es, .str z0, .tuple [ec, .str "where"]]) :=
    .tup upd_same (.cons (.str _) (.cons ((hes.mono (Pen.tups P6 b7)).mono (My.Same.tups m1)) (.cons (.str _) (.cons (.tup (by rw [upd_ne (ne_of_none upd_same hr2)]; exact upd_same) (.cons (hec.mono (My.Same.tups m1)) (.cons (.str _) .nil))) .nil))))
  have kC : okK (okTm 0) (.tuple [.str "call", es, .str z0, .tuple [ec, .str "where"]]) := ⟨_, _, _, rfl, oks, ⟨z0, rfl, n0⟩, (show 1 ≤ 2 by decide), (show 2 ≤ 2 by decide), fun x hx => by
    simp only [List.mem_cons, List.not_mem_nil, or_false] at hx
    rcases hx with rfl | rfl
    · exact .inr okc
    · exact .inl ⟨_, rfl, nw⟩⟩
  have hlb8 := b58 _ _ nlp hlb5
  have hcl8 := b58 _ _ nclp hcl5
  have bH8 := bH5.trans b58
  have D0 := D0.mono u58
  have D1 := D1.mono u58
  have D2 := D2.mono u58
  generalize (upd (upd H7 r1 (.tup [vc, .str "where"])) r2 (.tup [V.str "call", vs, .str z0, .ref r1])) = H8 at P8 DC hlb8 hcl8 bH8 D0 D1 D2
  -- inner
  refine l_cons ?_
  with_reducible refine s_set 6 ?k5 ?nd5 ?hi5 ?hx5 ?hs5 ?hf5
  case nd5 => exact scOdd.nd
  case hi5 => rfl
  case hx5 => first | exact Or.inl rfl | exact Or.inr rfl
  case hs5 => rfl
  case hf5 => first | exact .inl rfl | exact .inr rfl
  refine e_tup (a_str (a_cons (e_non (a_cons (e_var 3 rfl (a_cons (e_tup ?_)))))))
  refine a_cons (e_var 5 rfl (a_nil ⟨by show 1 ≤ sizeLine; decide, fun r3 hr3 => a_nil ⟨by show 4 ≤ sizeLine; decide, fun r4 hr4 => ?_⟩⟩))
  have m2 := (same_new (o := .tup [V.ref r2]) hr3).trans (same_new (o := .tup [V.str "call", .non, .str o, .ref r3]) hr4)
  have DI : DT (upd (upd H8 r3 (.tup [V.ref r2])) r4 (.tup [V.str "call", .non, .str o, .ref r3])) (.ref r4) (.tuple [.str "call", .none, .str o, .tuple [.tuple [.str "call", es, .str z0, .tuple [ec, .str "where"]]]]) :=
    .tup upd_same (.cons (.str _) (.cons .non (.cons (.str _) (.cons (.tup (by rw [upd_ne (ne_of_none upd_same hr4)]; exact upd_same) (.cons (DC.mono (My.Same.tups m2)) .nil)) .nil))))
  have kI : okK (okTm 1) (.tuple [.str "call", .none, .str o, .tuple [.tuple [.str "call", es, .str z0, .tuple [ec, .str "where"]]]]) := ⟨_, _, _, rfl, .inl rfl, ⟨o, rfl, no⟩, (show 1 ≤ 1 by decide), (show 1 ≤ 2 by decide), fun x hx => by
    simp only [List.mem_cons, List.not_mem_nil, or_false] at hx
    rw [hx]; exact .inr (.inr kC)⟩
  have P9 := P8.same m2
  have hlb9 := m2 _ _ hlb8
  have hcl9 := m2 _ _ hcl8
  have bH9 := bH8.trans (But.of m2)
  have D0 := D0.mono (My.Same.tups m2)
  have D1 := D1.mono (My.Same.tups m2)
  have D2 := D2.mono (My.Same.tups m2)
  have DC := DC.mono (My.Same.tups m2)
  generalize (upd (upd H8 r3 (.tup [V.ref r2])) r4 (.tup [V.str "call", .non, .str o, .ref r3])) = H9 at P9 DC DI hlb9 hcl9 bH9 D0 D1 D2
  generalize (PyData.tuple [.str "call", .none, .str o, .tuple [.tuple [.str "call", es, .str z0, .tuple [ec, .str "where"]]]]) = dI at DI kI
  generalize (PyData.tuple [.str "call", es, .str z0, .tuple [ec, .str "where"]]) = dC at DC kC
  -- told, four
  refine l_cons ?_
  with_reducible refine s_set 7 ?kA ?ndA ?hiA ?hxA ?hsA ?hfA
  case ndA => exact scOdd.nd
  case hiA => rfl
  case hxA => first | exact Or.inl rfl | exact Or.inr rfl
  case hsA => rfl
  case hfA => first | exact .inl rfl | exact .inr rfl
  refine e_lst ?_
  refine a_cons (e_tup (a_str (a_cons (e_ixL (e_var 2 rfl (e_int ⟨lb, _, 0, _, rfl, rfl, .inl (.inl hlb9), a0, a_nil ⟨by show 2 ≤ sizeLine; decide, fun u0 hu0 => ?_⟩⟩))))))
  have x0 := same_new (o := .tup [V.str "star", .str z0]) hu0
  refine a_cons (e_tup (a_str (a_cons (e_ixL (e_var 4 rfl (e_int ⟨cl, _, 0, _, rfl, rfl, .inl (.inl (x0 _ _ hcl9)), (show atI [V.ref c0, .ref c1, .ref c2] 0 = some (.ref c0) from rfl), a_cons (e_var 3 rfl (a_nil ⟨by show 3 ≤ sizeLine; decide, fun u1 hu1 => ?_⟩))⟩))))))
  have x1 := x0.trans (same_new (o := .tup [V.str "column", .ref c0, .str o]) hu1)
  refine a_cons (e_tup (a_str (a_cons (e_ixL (e_var 4 rfl (e_int ⟨cl, _, 1, _, rfl, rfl, .inl (.inl (x1 _ _ hcl9)), (show atI [V.ref c0, .ref c1, .ref c2] 1 = some (.ref c1) from rfl), a_cons (e_ixL (e_var 2 rfl (e_int ⟨lb, _, 1, _, rfl, rfl, .inl (.inl (x1 _ _ hlb9)), a1, a_nil ⟨by show 3 ≤ sizeLine; decide, fun u2 hu2 => ?_⟩⟩)))⟩))))))
  have x2 := x1.trans (same_new (o := .tup [V.str "column", .ref c1, .str z1]) hu2)
  refine a_cons (e_tup (a_str (a_str (a_cons (e_var 3 rfl (a_nil ⟨by show 3 ≤ sizeLine; decide, fun u3 hu3 => ?_⟩))))))
  have y3 := same_new (o := .tup [V.str "term", .str "from", .str o]) hu3
  have x3 := x2.trans y3
  refine a_nil ⟨by show 4 ≤ sizeLine; decide, fun ta hta => ?_⟩
  have y4 := same_new (o := .lst [V.ref u0, .ref u1, .ref u2, .ref u3]) hta
  have x4 := x3.trans y4
  have y2 := same_new (o := .tup [V.str "column", .ref c1, .str z1]) hu2
  have y1' := same_new (o := .tup [V.str "column", .ref c0, .str o]) hu1
  have P10 := P9.same x4
  have T0 := DT.mono (My.Same.tups (y1'.trans (y2.trans (y3.trans y4)))) (DT.tup (H := upd H9 u0 (.tup [V.str "star", .str z0])) (ds := [.str "star", .str z0]) upd_same (.cons (.str _) (.cons (.str _) .nil)))
  have T1 := DT.mono (My.Same.tups (y2.trans (y3.trans y4))) (DT.tup (H := upd (upd H9 u0 (.tup [V.str "star", .str z0])) u1 (.tup [V.str "column", .ref c0, .str o])) (ds := [.str "column", .tuple [.none, .str o], .str o]) upd_same (.cons (.str _) (.cons (D0.mono (My.Same.tups x1)) (.cons (.str _) .nil))))
  have T2 := DT.mono (My.Same.tups (y3.trans y4)) (DT.tup (H := upd (upd (upd H9 u0 (.tup [V.str "star", .str z0])) u1 (.tup [V.str "column", .ref c0, .str o])) u2 (.tup [V.str "column", .ref c1, .str z1])) (ds := [.str "column", .tuple [.str z0, .str o], .str z1]) upd_same (.cons (.str _) (.cons (D1.mono (My.Same.tups x2)) (.cons (.str _) .nil))))
  have T3 := DT.mono (My.Same.tups y4) (DT.tup (H := upd (upd (upd (upd H9 u0 (.tup [V.str "star", .str z0])) u1 (.tup [V.str "column", .ref c0, .str o])) u2 (.tup [V.str "column", .ref c1, .str z1])) u3 (.tup [V.str "term", .str "from", .str o])) (ds := [.str "term", .str "from", .str o]) upd_same (.cons (.str _) (.cons (.str _) (.cons (.str _) .nil))))
  have hta10 : (upd (upd (upd (upd (upd H9 u0 (.tup [V.str "star", .str z0])) u1 (.tup [V.str "column", .ref c0, .str o])) u2 (.tup [V.str "column", .ref c1, .str z1])) u3 (.tup [V.str "term", .str "from", .str o])) ta (.lst [V.ref u0, .ref u1, .ref u2, .ref u3])) ta = some (.lst [V.ref u0, .ref u1, .ref u2, .ref u3]) := upd_same
  have bH10 := bH9.trans (But.of x4)
  have hlb10 := x4 _ _ hlb9
  have hcl10 := x4 _ _ hcl9
  have D0 := D0.mono (My.Same.tups x4)
  have D1 := D1.mono (My.Same.tups x4)
  have D2 := D2.mono (My.Same.tups x4)
  have DC := DC.mono (My.Same.tups x4)
  have DI := DI.mono (My.Same.tups x4)
  generalize (upd (upd (upd (upd (upd H9 u0 (.tup [V.str "star", .str z0])) u1 (.tup [V.str "column", .ref c0, .str o])) u2 (.tup [V.str "column", .ref c1, .str z1])) u3 (.tup [V.str "term", .str "from", .str o])) ta (.lst [V.ref u0, .ref u1, .ref u2, .ref u3])) = H10 at P10 T0 T1 T2 T3 hta10 bH10 hlb10 hcl10 D0 D1 D2 DC DI
  -- told, two more
  refine l_cons ?_
  with_reducible refine s_set 7 ?kB ?ndB ?hiB ?hxB ?hsB ?hfB
  case ndB => exact scOdd.nd
  case hiB => rfl
  case hxB => first | exact Or.inl rfl | exact Or.inr rfl
  case hsB => rfl
  case hfB => first | exact .inl rfl | exact .inr rfl
  refine e_cat (e_var 7 rfl (e_lst ?_))
  refine a_cons (e_tup (a_str (a_cons (e_var 5 rfl (a_str (a_nil ⟨by show 3 ≤ sizeLine; decide, fun u4 hu4 => ?_⟩))))))
  have z4 := same_new (o := .tup [V.str "term", .ref r2, .str "a"]) hu4
  refine a_cons (e_tup (a_str (a_cons (e_var 6 rfl (a_cons (e_var 3 rfl (a_nil ⟨by show 3 ≤ sizeLine; decide, fun u5 hu5 => ?_⟩)))))))
  have z5 := same_new (o := .tup [V.str "term", .ref r4, .str o]) hu5
  refine a_nil ⟨by show 2 ≤ sizeLine; decide, fun tb htb => ?_⟩
  have z6 := same_new (o := .lst [V.ref u4, .ref u5]) htb
  have z46 := z4.trans (z5.trans z6)
  refine ⟨ta, tb, _, _, rfl, rfl, z46 _ _ hta10, upd_same, by show 6 ≤ sizeLine; decide, fun tc htc => ?_⟩
  have z7 := same_new (o := .lst ([V.ref u0, .ref u1, .ref u2, .ref u3] ++ [V.ref u4, .ref u5])) htc
  have z47 := z46.trans z7
  have P11 := P10.same z47
  have ntcp : tc ≠ p := (P10.same z46).newP htc
  have T4 := DT.mono (My.Same.tups (z5.trans (z6.trans z7))) (DT.tup (H := upd H10 u4 (.tup [V.str "term", .ref r2, .str "a"])) (ds := [.str "term", dC, .str "a"]) upd_same (.cons (.str _) (.cons (DC.mono (My.Same.tups z4)) (.cons (.str _) .nil))))
  have T5 := DT.mono (My.Same.tups (z6.trans z7)) (DT.tup (H := upd (upd H10 u4 (.tup [V.str "term", .ref r2, .str "a"])) u5 (.tup [V.str "term", .ref r4, .str o])) (ds := [.str "term", dI, .str o]) upd_same (.cons (.str _) (.cons (DI.mono (My.Same.tups (z4.trans z5))) (.cons (.str _) .nil))))
  have TS : DTs _ [V.ref u0, .ref u1, .ref u2, .ref u3, .ref u4, .ref u5] _ := .cons (T0.mono (My.Same.tups z47)) (.cons (T1.mono (My.Same.tups z47)) (.cons (T2.mono (My.Same.tups z47)) (.cons (T3.mono (My.Same.tups z47)) (.cons T4 (.cons T5 .nil)))))
  have kTS : ∀ d ∈ ([.tuple [.str "star", .str z0], .tuple [.str "column", .tuple [.none, .str o], .str o], .tuple [.str "column", .tuple [.str z0, .str o], .str z1], .tuple [.str "term", .str "from", .str o], .tuple [.str "term", dC, .str "a"], .tuple [.str "term", dI, .str o]] : List PyData), okTold d := by
    have kk : ∀ d, okK (okTm 0) d → okK (okTm 2) d := fun d ⟨s, n, ts, e, h1, h2, h3, h4, h5⟩ => ⟨s, n, ts, e, h1, h2, h3, h4, fun t ht => okTm_le (by decide) (h5 t ht)⟩
    have kk1 : ∀ d, okK (okTm 1) d → okK (okTm 2) d := fun d ⟨s, n, ts, e, h1, h2, h3, h4, h5⟩ => ⟨s, n, ts, e, h1, h2, h3, h4, fun t ht => okTm_le (by decide) (h5 t ht)⟩
    intro d hd
    simp only [List.mem_cons, List.not_mem_nil, or_false] at hd
    rcases hd with rfl | rfl | rfl | rfl | rfl | rfl
    · exact .inl ⟨_, rfl, _, rfl, n0⟩
    · exact .inr (.inl ⟨_, _, _, rfl, .inl rfl, ⟨_, rfl, no⟩, _, rfl, no⟩)
    · exact .inr (.inl ⟨_, _, _, rfl, .inr ⟨_, rfl, n0⟩, ⟨_, rfl, no⟩, _, rfl, n1⟩)
    · exact .inr (.inr ⟨_, _, rfl, .inl ⟨_, rfl, nm_of (by decide +kernel)⟩, _, rfl, no⟩)
    · exact .inr (.inr ⟨_, _, rfl, .inr (kk _ kC), _, rfl, nm_of (by decide +kernel)⟩)
    · exact .inr (.inr ⟨_, _, rfl, .inr (kk1 _ kI), _, rfl, no⟩)
  have htc11 : (upd (upd (upd (upd H10 u4 (.tup [V.str "term", .ref r2, .str "a"])) u5 (.tup [V.str "term", .ref r4, .str o])) tb (.lst [V.ref u4, .ref u5])) tc (.lst ([V.ref u0, .ref u1, .ref u2, .ref u3] ++ [V.ref u4, .ref u5]))) tc = some (.lst [V.ref u0, .ref u1, .ref u2, .ref u3, .ref u4, .ref u5]) := upd_same
  have bH11 := bH10.trans (But.of z47)
  have hlb11 := z47 _ _ hlb10
  have hcl11 := z47 _ _ hcl10
  have D0 := D0.mono (My.Same.tups z47)
  have D1 := D1.mono (My.Same.tups z47)
  have D2 := D2.mono (My.Same.tups z47)
  show WL _ _ _ [some (.ref p), some (.ref ny), some (.ref lb), some (.str o), some (.ref cl), some (.ref r2), some (.ref r4), some (.ref tc), none, none, none, none] (upd (upd (upd (upd H10 u4 (.tup [V.str "term", .ref r2, .str "a"])) u5 (.tup [V.str "term", .ref r4, .str o])) tb (.lst [V.ref u4, .ref u5])) tc (.lst ([V.ref u0, .ref u1, .ref u2, .ref u3] ++ [V.ref u4, .ref u5])))
  generalize (upd (upd (upd (upd H10 u4 (.tup [V.str "term", .ref r2, .str "a"])) u5 (.tup [V.str "term", .ref r4, .str o])) tb (.lst [V.ref u4, .ref u5])) tc (.lst ([V.ref u0, .ref u1, .ref u2, .ref u3] ++ [V.ref u4, .ref u5]))) = H11 at P11 TS htc11 bH11 hlb11 hcl11 D0 D1 D2
  have ltx : ([V.ref u0, .ref u1, .ref u2, .ref u3, .ref u4, .ref u5] : List V).length = 6 := rfl
  generalize ([V.ref u0, .ref u1, .ref u2, .ref u3, .ref u4, .ref u5] : List V) = tx at TS htc11 ltx
  generalize ([.tuple [.str "star", .str z0], .tuple [.str "column", .tuple [.none, .str o], .str o], .tuple [.str "column", .tuple [.str z0, .str o], .str z1], .tuple [.str "term", .str "from", .str o], .tuple [.str "term", dC, .str "a"], .tuple [.str "term", dI, .str o]] : List PyData) = td at TS kTS
  -- sources
  refine l_cons ?_
  with_reducible refine s_set 8 ?kD ?ndD ?hiD ?hxD ?hsD ?hfD
  case ndD => exact scOdd.nd
  case hiD => rfl
  case hxD => first | exact Or.inl rfl | exact Or.inr rfl
  case hsD => rfl
  case hfD => first | exact .inl rfl | exact .inr rfl
  refine e_tup ?_
  refine a_cons (e_tup (a_cons (e_non (a_cons (e_var 3 rfl (a_cons (e_ixL (e_var 2 rfl (e_int ⟨lb, _, 0, _, rfl, rfl, .inl (.inl hlb11), a0, a_nil ⟨by show 3 ≤ sizeLine; decide, fun v0 hv0 => ?_⟩⟩)))))))))
  have m0 := same_new (o := .tup [V.non, .str o, .str z0]) hv0
  refine a_cons (e_tup (a_cons (e_var 3 rfl (a_cons (e_ixL (e_var 2 rfl (e_int ⟨lb, _, 1, _, rfl, rfl, .inl (.inl (m0 _ _ hlb11)), a1, a_cons (e_ixL (e_var 2 rfl (e_int ⟨lb, _, 1, _, rfl, rfl, .inl (.inl (m0 _ _ hlb11)), a1, a_nil ⟨by show 3 ≤ sizeLine; decide, fun v1 hv1 => ?_⟩⟩)))⟩)))))))
  have m1' := same_new (o := .tup [V.str o, .str z1, .str z1]) hv1
  refine a_nil ⟨by show 2 ≤ sizeLine; decide, fun sq hsq => ?_⟩
  have m2' := same_new (o := .tup [V.ref v0, .ref v1]) hsq
  have m02 := m0.trans (m1'.trans m2')
  have P12 := P11.same m02
  have nsqp : sq ≠ p := (P11.same (m0.trans m1')).newP hsq
  have S0 := DT.mono (My.Same.tups (m1'.trans m2')) (DT.tup (H := upd H11 v0 (.tup [V.non, .str o, .str z0])) (ds := [.none, .str o, .str z0]) upd_same (.cons .non (.cons (.str _) (.cons (.str _) .nil))))
  have S1 := DT.mono (My.Same.tups m2') (DT.tup (H := upd (upd H11 v0 (.tup [V.non, .str o, .str z0])) v1 (.tup [V.str o, .str z1, .str z1])) (ds := [.str o, .str z1, .str z1]) upd_same (.cons (.str _) (.cons (.str _) (.cons (.str _) .nil))))
  have SS : DTs _ [V.ref v0, .ref v1] _ := .cons S0 (.cons S1 .nil)
  have kSS : ∀ d ∈ ([.tuple [.none, .str o, .str z0], .tuple [.str o, .str z1, .str z1]] : List PyData), okSrc d := by
    intro d hd
    simp only [List.mem_cons, List.not_mem_nil, or_false] at hd
    rcases hd with rfl | rfl
    · exact ⟨_, _, _, rfl, .inl rfl, ⟨_, rfl, no⟩, _, rfl, n0⟩
    · exact ⟨_, _, _, rfl, .inr ⟨_, rfl, no⟩, ⟨_, rfl, n1⟩, _, rfl, n1⟩
  have hsq12 : (upd (upd (upd H11 v0 (.tup [V.non, .str o, .str z0])) v1 (.tup [V.str o, .str z1, .str z1])) sq (.tup [V.ref v0, .ref v1])) sq = some (.tup [V.ref v0, .ref v1]) := upd_same
  have bH12 := bH11.trans (But.of m02)
  have hcl12 := m02 _ _ hcl11
  have htc12 := m02 _ _ htc11
  have D0 := D0.mono (My.Same.tups m02)
  have D1 := D1.mono (My.Same.tups m02)
  have D2 := D2.mono (My.Same.tups m02)
  have TS := TS.mono (My.Same.tups m02)
  show WL _ _ _ [some (.ref p), some (.ref ny), some (.ref lb), some (.str o), some (.ref cl), some (.ref r2), some (.ref r4), some (.ref tc), some (.ref sq), none, none, none] (upd (upd (upd H11 v0 (.tup [V.non, .str o, .str z0])) v1 (.tup [V.str o, .str z1, .str z1])) sq (.tup [V.ref v0, .ref v1]))
  generalize (upd (upd (upd H11 v0 (.tup [V.non, .str o, .str z0])) v1 (.tup [V.str o, .str z1, .str z1])) sq (.tup [V.ref v0, .ref v1])) = H12 at P12 SS hsq12 bH12 hcl12 htc12 D0 D1 D2 TS
  have lsx : ([V.ref v0, .ref v1] : List V).length = 2 := rfl
  generalize ([V.ref v0, .ref v1] : List V) = sx at SS hsq12 lsx
  generalize ([.tuple [.none, .str o, .str z0], .tuple [.str o, .str z1, .str z1]] : List PyData) = sd at SS kSS
  -- asks
  refine l_cons ?_
  with_reducible refine s_set 9 ?kE ?ndE ?hiE ?hxE ?hsE ?hfE
  case ndE => exact scOdd.nd
  case hiE => rfl
  case hxE => first | exact Or.inl rfl | exact Or.inr rfl
  case hsE => rfl
  case hfE => first | exact .inl rfl | exact .inr rfl
  refine e_tup ?_
  refine a_cons (e_tup (a_str (a_cons (e_ixL (e_var 4 rfl (e_int ⟨cl, _, 0, _, rfl, rfl, .inl (.inl hcl12), (show atI [V.ref c0, .ref c1, .ref c2] 0 = some (.ref c0) from rfl), a_cons (e_ixL (e_var 4 rfl (e_int ⟨cl, _, 2, _, rfl, rfl, .inl (.inl hcl12), (show atI [V.ref c0, .ref c1, .ref c2] 2 = some (.ref c2) from rfl), a_nil ⟨by show 3 ≤ sizeLine; decide, fun w0 hw0 => ?_⟩⟩)))⟩))))))
  have g0' := same_new (o := .tup [V.str "equal", .ref c0, .ref c2]) hw0
  refine a_cons (e_tup (a_str (a_cons (e_ixL (e_var 4 rfl (e_int ⟨cl, _, 1, _, rfl, rfl, .inl (.inl (g0' _ _ hcl12)), (show atI [V.ref c0, .ref c1, .ref c2] 1 = some (.ref c1) from rfl), a_cons (e_tup ?_)⟩))))))
  iterate 3 refine a_str ?_
  refine a_nil ⟨by show 3 ≤ sizeLine; decide, fun w1 hw1 => a_nil ⟨by show 3 ≤ sizeLine; decide, fun w2 hw2 => a_nil ⟨by show 2 ≤ sizeLine; decide, fun aq haq => ?_⟩⟩⟩
  have g1' := same_new (o := .tup [V.str "and", .str "in", .str "select"]) hw1
  have g2' := same_new (o := .tup [V.str "in", .ref c1, .ref w1]) hw2
  have g3' := same_new (o := .tup [V.ref w0, .ref w2]) haq
  have g03 := g0'.trans (g1'.trans (g2'.trans g3'))
  have P13 := P12.same g03
  have naqp : aq ≠ p := (P12.same (g0'.trans (g1'.trans g2'))).newP haq
  have A0 := DT.mono (My.Same.tups (g1'.trans (g2'.trans g3'))) (DT.tup (H := upd H12 w0 (.tup [V.str "equal", .ref c0, .ref c2])) (ds := [.str "equal", .tuple [.none, .str o], .tuple [.str z1, .str z0]]) upd_same (.cons (.str _) (.cons (D0.mono (My.Same.tups g0')) (.cons (D2.mono (My.Same.tups g0')) .nil))))
  have W1 := DT.mono (My.Same.tups g2') (DT.tup (H := upd (upd H12 w0 (.tup [V.str "equal", .ref c0, .ref c2])) w1 (.tup [V.str "and", .str "in", .str "select"])) (ds := [.str "and", .str "in", .str "select"]) upd_same (.cons (.str _) (.cons (.str _) (.cons (.str _) .nil))))
  have A1 := DT.mono (My.Same.tups g3') (DT.tup (H := upd (upd (upd H12 w0 (.tup [V.str "equal", .ref c0, .ref c2])) w1 (.tup [V.str "and", .str "in", .str "select"])) w2 (.tup [V.str "in", .ref c1, .ref w1])) (ds := [.str "in", .tuple [.str z0, .str o], .tuple [.str "and", .str "in", .str "select"]]) upd_same (.cons (.str _) (.cons (D1.mono (My.Same.tups (g0'.trans (g1'.trans g2')))) (.cons W1 .nil))))
  have AS : DTs _ [V.ref w0, .ref w2] _ := .cons A0 (.cons A1 .nil)
  have kAS : ∀ d ∈ ([.tuple [.str "equal", .tuple [.none, .str o], .tuple [.str z1, .str z0]], .tuple [.str "in", .tuple [.str z0, .str o], .tuple [.str "and", .str "in", .str "select"]]] : List PyData), okCond d := by
    intro d hd
    simp only [List.mem_cons, List.not_mem_nil, or_false] at hd
    rcases hd with rfl | rfl
    · exact .inl ⟨_, _, rfl, k0, k2⟩
    · refine .inr ⟨_, _, rfl, k1, by decide, fun x hx => ?_⟩
      simp only [List.mem_cons, List.not_mem_nil, or_false] at hx
      rcases hx with rfl | rfl | rfl
      · exact okN_of (by decide +kernel)
      · exact okN_of (by decide +kernel)
      · exact okN_of (by decide +kernel)
  have haq13 : (upd (upd (upd (upd H12 w0 (.tup [V.str "equal", .ref c0, .ref c2])) w1 (.tup [V.str "and", .str "in", .str "select"])) w2 (.tup [V.str "in", .ref c1, .ref w1])) aq (.tup [V.ref w0, .ref w2])) aq = some (.tup [V.ref w0, .ref w2]) := upd_same
  have bH13 := bH12.trans (But.of g03)
  have hsq13 := g03 _ _ hsq12
  have htc13 := g03 _ _ htc12
  have TS := TS.mono (My.Same.tups g03)
  have SS := SS.mono (My.Same.tups g03)
  show WL _ _ _ [some (.ref p), some (.ref ny), some (.ref lb), some (.str o), some (.ref cl), some (.ref r2), some (.ref r4), some (.ref tc), some (.ref sq), some (.ref aq), none, none] (upd (upd (upd (upd H12 w0 (.tup [V.str "equal", .ref c0, .ref c2])) w1 (.tup [V.str "and", .str "in", .str "select"])) w2 (.tup [V.str "in", .ref c1, .ref w1])) aq (.tup [V.ref w0, .ref w2]))
  generalize (upd (upd (upd (upd H12 w0 (.tup [V.str "equal", .ref c0, .ref c2])) w1 (.tup [V.str "and", .str "in", .str "select"])) w2 (.tup [V.str "in", .ref c1, .ref w1])) aq (.tup [V.ref w0, .ref w2])) = H13 at P13 AS haq13 bH13 hsq13 htc13 TS SS
  have lax : ([V.ref w0, .ref w2] : List V).length = 2 := rfl
  generalize ([V.ref w0, .ref w2] : List V) = ax at AS haq13 lax
  generalize ([.tuple [.str "equal", .tuple [.none, .str o], .tuple [.str z1, .str z0]], .tuple [.str "in", .tuple [.str z0, .str o], .tuple [.str "and", .str "in", .str "select"]]] : List PyData) = ad at AS kAS
  -- some of the told
  refine l_cons ?_
  with_reducible refine s_set 10 ?kF ?ndF ?hiF ?hxF ?hsF ?hfF
  case ndF => exact scOdd.nd
  case hiF => rfl
  case hxF => first | exact Or.inl rfl | exact Or.inr rfl
  case hsF => rfl
  case hfF => first | exact .inl rfl | exact .inr rfl
  refine e_tupL G.tuple ?_
  refine e_lcR 11 G.range scOdd.nd (blkOk_by (N := nOdd) (sc := defScope sOdd) (by decide +kernel)) ?_ (fun _ _ _ _ _ => pg_name (i := 11) scOdd.nd rfl (Or.inl rfl))
  refine e_addI (e_int ?_)
  refine e_c cD hr (by decide) (a_cons (e_var 0 rfl (a_cons (e_int (a_nil ⟨p, L, n + 103, 4, rfl, P13, by omega, by decide, by decide, fun d14 H14 b14 P14 hd14 => ?_⟩)))))
  refine ⟨1, _, rfl, rfl, d14 + 1, by rw [show (1 : Int) + (d14 : Int) = ((d14 + 1 : Nat) : Int) by omega], by omega, fun Dn nD => ?_⟩
  have nDp : Dn ≠ p := P14.newP nD
  have nDL : Dn ≠ L := P14.newL nD
  have htc14 := b14 _ _ ntcp htc13
  have TS := TS.mono (Pen.tups P13 b14)
  refine ⟨fun i H4 => ∃ vs ds, (∀ b o, b ≠ p → H14 b = some o → H4 b = some o) ∧ Pen H4 p L (n + 104 + i) ∧ H4 Dn = some (.lst vs) ∧ DTs H4 vs ds ∧ ds.length = i ∧ ∀ d ∈ ds, okTold d, ?_, ?_, ?_⟩
  · exact ⟨[], [], fun b o _ h => same_new nD b o h, (P14.same (same_new nD)).mono (by omega), upd_same, .nil, rfl, fun d h => by cases h⟩
  · rintro i H4 hi ⟨vs', ds, h1, h2, h3, h4, h5, h6⟩ s0 H00 C cl' fp
    refine e_ixL (e_var 7 rfl ?_)
    refine e_c cD hr (by decide) (a_cons (e_var 0 rfl (a_cons (e_int (a_nil ⟨p, L, n + 104 + i, 6, rfl, h2, by omega, by decide, by decide, fun d15 H5' b5 P5' hd15 => ?_⟩)))))
    have l15 : d15 < tx.length := by omega
    refine ⟨tc, tx, d15, _, rfl, rfl, .inl (.inl (b5 _ _ ntcp (h1 _ _ ntcp htc14))), at_some l15, ?_⟩
    obtain ⟨e15, he15, ok15⟩ := pick (H := H5') (ds := td) (ok := okTold) (d := d15) ((TS.mono (Pen.tups P14 h1)).mono (Pen.tups h2 b5)) l15 kTS
    have d5 := b5 _ _ nDp h3
    have lv := h4.length
    refine ⟨vs', d5, ?_, vs' ++ [tx[d15]], ds ++ [e15], fun b o nb h => ?_, ?_, upd_same, ?_, ?_, ?_⟩
    · exact Nat.lt_of_lt_of_le (show vs'.length < 100 by omega) (by decide)
    · have nbD : b ≠ Dn := ne_of_none h nD
      rw [upd_ne nbD]
      exact b5 b o nb (h1 b o nb h)
    · exact (P5'.upd nDp nDL).mono (by omega)
    · exact ((h4.mono (Pen.tups h2 b5)).mono (Tup.set d5)).snoc (he15.mono (Tup.set d5))
    · rw [List.length_append, h5]; rfl
    · intro x hx
      rcases List.mem_append.mp hx with hx | hx
      · exact h6 x hx
      · have e : x = e15 := by simpa using hx
        rw [e]; exact ok15
  rintro H15 ⟨vs', ds, h1, h2, h3, h4, h5, h6⟩
  have h2' : Pen H15 p L (n + 110) := h2.mono (by omega)
  have b1315 : But p H13 H15 := b14.trans h1
  refine ⟨Dn, vs', rfl, .inl (.inl h3), fun so hso => ?_⟩
  have sS := same_new (o := .tup vs') hso
  have P16 := h2'.same sS
  have nsop : so ≠ p := h2'.newP hso
  have hso16 : (upd H15 so (.tup vs')) so = some (.tup vs') := upd_same
  have u16 := (Pen.tups P13 b1315).trans (My.Same.tups sS)
  have VS := h4.mono (My.Same.tups sS)
  have SS := SS.mono u16
  have AS := AS.mono u16
  have hsq16 := sS _ _ (b1315 _ _ nsqp hsq13)
  have haq16 := sS _ _ (b1315 _ _ naqp haq13)
  have bH16 := bH13.trans (b1315.trans (But.of sS))
  show WL _ _ _ [some (.ref p), some (.ref ny), some (.ref lb), some (.str o), some (.ref cl), some (.ref r2), some (.ref r4), some (.ref tc), some (.ref sq), some (.ref aq), some (.ref so), none] (upd H15 so (.tup vs'))
  generalize (upd H15 so (.tup vs')) = H16 at P16 hso16 VS SS AS hsq16 haq16 bH16
  -- the end
  refine l_one (s_ret (e_tup (a_cons (e_cmp op_eq ?_))))
  refine e_c cD hr (by decide) (a_cons (e_var 0 rfl (a_cons (e_int (a_nil ⟨p, L, n + 110, 2, rfl, P16, by omega, by decide, by decide, fun d17 H17 b17 P17 hd17 => e_int ⟨rfl, ?_⟩⟩)))))
  have SS := SS.mono (Pen.tups P16 b17)
  have AS := AS.mono (Pen.tups P16 b17)
  have VS := VS.mono (Pen.tups P16 b17)
  have hso17 := b17 _ _ nsop hso16
  have hsq17 := b17 _ _ nsqp hsq16
  have haq17 := b17 _ _ naqp haq16
  refine a_cons (e_var 10 rfl (a_cons (e_slK (e_var 8 rfl (e_addI (e_int ?_))))))
  refine e_c cD hr (by decide) (a_cons (e_var 0 rfl (a_cons (e_int (a_nil ⟨p, L, n + 111, 2, rfl, P17, by omega, by decide, by decide, fun d18 H18 b18 P18 hd18 => ?_⟩)))))
  refine ⟨1, _, rfl, rfl, d18 + 1, sq, sx, by rw [show (1 : Int) + (d18 : Int) = ((d18 + 1 : Nat) : Int) by omega], rfl, b18 _ _ nsqp hsq17, fun s1 H19 k19 hs1 => ?_⟩
  have u19 := (Pen.tups P17 b18).trans (My.Same.tups k19)
  have P19 := P18.same k19
  have haq19 := k19 _ _ (b18 _ _ naqp haq17)
  have hso19 := k19 _ _ (b18 _ _ nsop hso17)
  have SS := SS.mono u19
  have AS := AS.mono u19
  have VS := VS.mono u19
  have bH19 := bH16.trans (b17.trans (b18.trans (But.of k19)))
  have ns1p : s1 ≠ p := fun e => by
    obtain ⟨xp, hp⟩ := P19.p
    rw [e, hp] at hs1
    cases hs1
  refine a_cons (e_slK (e_var 9 rfl ?_))
  refine e_c cD hr (by decide) (a_cons (e_var 0 rfl (a_cons (e_int (a_nil ⟨p, L, n + 112, 3, rfl, P19, by omega, by decide, by decide, fun d20 H20 b20 P20 hd20 => ?_⟩)))))
  refine ⟨d20, aq, ax, rfl, rfl, b20 _ _ naqp haq19, fun s2 H21 k21 hs2 => ?_⟩
  have u21 := (Pen.tups P19 b20).trans (My.Same.tups k21)
  refine a_nil ⟨by show 4 ≤ sizeLine; decide, fun res hres => ?_⟩
  have sR := same_new (o := .tup [V.bl (decide (V.int (d17 : Int) = V.int 0)), .ref so, .ref s1, .ref s2]) hres
  have uR := u21.trans (My.Same.tups sR)
  refine q _ (.tuple [.bool (decide (V.int (d17 : Int) = V.int 0)), .tuple ds, .tuple (sd.take (d18 + 1)), .tuple (ad.take d20)]) _ (bH19.trans (b20.trans (But.of (k21.trans sR)))) ((P20.same (k21.trans sR)).mono (by omega)) (.tup upd_same (.cons (.bl _) (.cons (.tup (sR _ _ (k21 _ _ (b20 _ _ nsop hso19))) (VS.mono uR)) (.cons (.tup (sR _ _ (k21 _ _ (b20 _ _ ns1p hs1))) ((SS.take _).mono uR)) (.cons (.tup (sR _ _ hs2) ((AS.take _).mono uR)) .nil))))) ⟨_, _, _, _, rfl, ⟨by omega, h6⟩, ⟨?_, fun d hd => kSS d (List.mem_of_mem_take hd)⟩, ⟨?_, fun d hd => kAS d (List.mem_of_mem_take hd)⟩⟩
  · rw [List.length_take]; have := SS.length; omega
  · rw [List.length_take]; have := AS.length; omega
end
end K10

namespace K10
open PySem PySem.Spec PyProof.Rows L2 My
/-! ### the texts' signs are small -/
def Sm (z : Str) : Prop := ∀ c ∈ z.cps.toList, c < 128
theorem Sm.cat {x y : Str} (hx : Sm x) (hy : Sm y) : Sm (x ++ y) := fun c hc => by
  rw [str_cat] at hc
  rcases List.mem_append.mp hc with h | h
  · exact hx c h
  · exact hy c h
theorem sm_of {z : Str} (h : (z.cps.toList.all fun c => decide (c < 128)) = true) : Sm z := fun c hc => of_decide_eq_true (List.all_eq_true.mp h c hc)
theorem sm_empty : Sm Str.empty := fun c hc => by cases hc
theorem sm_join {y : Str} (hy : Sm y) : ∀ {ps : List Str}, (∀ p ∈ ps, Sm p) → Sm (Txt.join y ps) := by
  intro ps h
  rw [TL.join_eq]
  induction ps with
  | nil => exact sm_empty
  | cons x r ih =>
    cases r with
    | nil => exact h x List.mem_cons_self
    | cons z r => exact ((h x List.mem_cons_self).cat hy).cat (ih fun p hp => h p (List.mem_cons_of_mem _ hp))
theorem sm_map {α : Type} {f : α → Str} {l : List α} (h : ∀ x ∈ l, Sm (f x)) : ∀ p ∈ l.map f, Sm p := fun p hp => by
  obtain ⟨x, hx, rfl⟩ := List.mem_map.mp hp
  exact h x hx
theorem sm_sv {d : PyData} (h : okN d) : Sm (sv d) := by obtain ⟨z, rfl, _, hz⟩ := h; exact sm_of hz
theorem sm_dot {a b : PyData} (ha : okO a) (hb : okN b) : Sm (dotT a b) := by
  rcases ha with rfl | ⟨y, rfl, _, hy⟩
  · exact sm_sv hb
  · exact ((sm_of hy).cat (sm_of (by decide +kernel))).cat (sm_sv hb)
theorem sm_quo {z : Str} (h : Sm z) : Sm (quoT z) := ((sm_of (by decide +kernel) : Sm ("'" : Str)).cat h).cat (sm_of (by decide +kernel))
theorem sm_term : ∀ (k : Nat) {d : PyData}, okTm k d → Sm (termT k d)
  | k, d, h => by
    rcases h.cases with ⟨z, rfl, _, hz⟩ | ⟨a, b, rfl, ha, hb⟩ | ⟨j, rfl, s, n, ts, rfl, hs, hn, h1, h2, hts⟩
    · have e : termT k (.str z) = quoT z := by cases k <;> rfl
      rw [e]; exact sm_quo (sm_of hz)
    · have e : termT k (.tuple [a, b]) = dotT a b := by cases k <;> rfl
      rw [e]; exact sm_dot ha hb
    · show Sm (dotT s n ++ ("(" : Str) ++ Txt.join (", " : Str) (ts.map (termT j)) ++ (")" : Str))
      exact (((sm_dot hs hn).cat (sm_of (by decide +kernel))).cat (sm_join (sm_of (by decide +kernel)) (sm_map fun t ht => sm_term j (hts t ht)))).cat (sm_of (by decide +kernel))
theorem sm_cell {d : PyData} (h : okC d) : Sm (cellT d) := by obtain ⟨a, b, rfl, ha, hb⟩ := h; exact sm_dot ha hb
theorem sm_told {d : PyData} (h : okTold d) : Sm (toldT d) := by
  rcases h with ⟨n, rfl, hn⟩ | ⟨a, b, n, rfl, ha, hb, hn⟩ | ⟨t, n, rfl, ht, hn⟩
  · exact (sm_sv hn).cat (sm_of (by decide +kernel))
  · show Sm (if sv b = sv n then dotT a b else dotT a b ++ (" as " : Str) ++ sv n)
    split
    · exact sm_dot ha hb
    · exact ((sm_dot ha hb).cat (sm_of (by decide +kernel))).cat (sm_sv hn)
  · have e : toldT (.tuple [.str "term", t, n]) = termT 3 t ++ (" as " : Str) ++ sv n := by
      rcases ht with ⟨z, rfl, _⟩ | ⟨s, m, ts, rfl, _⟩ <;> rfl
    rw [e]
    exact ((sm_term 3 (okTm_of ht)).cat (sm_of (by decide +kernel))).cat (sm_sv hn)
theorem sm_src {d : PyData} (h : okSrc d) : Sm (srcT d) := by
  obtain ⟨s, n, l, rfl, hs, hn, hl⟩ := h
  show Sm (if sv l = sv n then dotT s n else dotT s n ++ (" " : Str) ++ sv l)
  split
  · exact sm_dot hs hn
  · exact ((sm_dot hs hn).cat (sm_of (by decide +kernel))).cat (sm_sv hl)
theorem sm_cond {d : PyData} (h : okCond d) : Sm (condT d) := by
  rcases h with ⟨a, b, rfl, ha, hb⟩ | ⟨a, ds, rfl, ha, hl, hd⟩
  · rw [cond_eq a b hb]
    exact ((sm_cell ha).cat (sm_of (by decide +kernel))).cat (sm_cell hb)
  · rw [cond_in]
    exact ((sm_cell ha).cat (sm_of (by decide +kernel))).cat (((sm_of (by decide +kernel) : Sm ("(" : Str)).cat (sm_join (sm_of (by decide +kernel)) (sm_map fun d h => sm_quo (sm_sv (hd d h))))).cat (sm_of (by decide +kernel)))
theorem sm_sel (b : Bool) : Sm (selT b) := by cases b <;> exact sm_of (by decide +kernel)
theorem write_ok {d : PyData} (h : okSt d) : Sm (writeT d) ∧ (writeT d).length ≤ 20000 := by
  obtain ⟨b, ts, ss, cs, rfl, ht, hs, hc⟩ := h
  have jt := join8 (sep := (", " : Str)) (f := toldT) (B := 1000) ht (by decide) fun d h => told_len h
  have js := join8 (sep := (", " : Str)) (f := srcT) (B := 100) hs (by decide) fun d h => src_len h
  have jc := join8 (sep := (" and " : Str)) (f := condT) (B := 300) hc (by decide) fun d h => cond_len h
  have sb := sel_len b
  have ef : (" from " : Str).length = 6 := by decide
  have ew : (" where " : Str).length = 7 := by decide
  show Sm (selT b ++ Txt.join (", " : Str) (ts.map toldT) ++ ((" from " : Str) ++ Txt.join (", " : Str) (ss.map srcT)) ++ whereT cs) ∧ (selT b ++ Txt.join (", " : Str) (ts.map toldT) ++ ((" from " : Str) ++ Txt.join (", " : Str) (ss.map srcT)) ++ whereT cs).length ≤ 20000
  have hw : Sm (whereT cs) ∧ (whereT cs).length ≤ 5000 := by
    unfold whereT
    split
    · exact ⟨sm_empty, by decide⟩
    · exact ⟨(sm_of (by decide +kernel)).cat (sm_join (sm_of (by decide +kernel)) (sm_map fun d h => sm_cond (hc.2 d h))), by rw [cat_len]; omega⟩
  refine ⟨(((sm_sel b).cat (sm_join (sm_of (by decide +kernel)) (sm_map fun d h => sm_told (ht.2 d h)))).cat ((sm_of (by decide +kernel)).cat (sm_join (sm_of (by decide +kernel)) (sm_map fun d h => sm_src (hs.2 d h))))).cat hw.1, ?_⟩
  rw [cat_len, cat_len, cat_len, cat_len]
  have := hw.2
  omega
theorem fineSt {d : PyData} (h : okSt d) : okD d = true ∧ d.shown.length ≤ sizeLine ∧ d.showable = true ∧ d.depth ≤ 60 := by
  obtain ⟨b, ts, ss, cs, rfl, ht, hs, hc⟩ := h
  obtain ⟨a1, a2, a3⟩ := (fineL ht (fun d => fineTold (d := d)))
  obtain ⟨b1, b2, b3⟩ := (fineL hs (fun d => fineSrc (d := d)))
  obtain ⟨c1, c2, c3⟩ := (fineL hc (fun d => fineCond (d := d)))
  have hk : okD (.tuple [.bool b, .tuple ts, .tuple ss, .tuple cs]) = true := by
    show (true && (okD (.tuple ts) && (okD (.tuple ss) && (okD (.tuple cs) && true)))) = true
    rw [a1, b1, c1]; rfl
  refine ⟨hk, Nat.le_trans (shown_le _ hk) ?_, showable_ok _ hk, ?_⟩
  · show (5 + 2 + (szD (.tuple ts) + 2 + (szD (.tuple ss) + 2 + (szD (.tuple cs) + 2 + 0)))) + 5 ≤ 2 ^ 24
    omega
  · show max 0 (max (PyData.depth (.tuple ts)) (max (PyData.depth (.tuple ss)) (max (PyData.depth (.tuple cs)) 0))) + 1 ≤ 60
    omega
end K10

namespace K10
open PySem PySem.Spec PyProof.Rows L2 My
abbrev sLaw : Stmt := top 25
abbrev nLaw : List Str := ["_law_script", "_law_pen_here", "_law_places", "_law_turn", "_law_one", "_law_before", "_law_plain"]
def spLaw (K : PySem.W.Frag) : Sp := fun vs H Q _ => ∃ (a : Addr) (ns : List Int), vs = [.ref a] ∧ SqL K H a (ns.map V.int) ∧ ns.length ≤ 63 ∧ ∀ H', Q (.bl true) H'
section
variable {X : Cx} {e : Expr} {σ : L2.St} {H : Hp} {Q : VK} {pos p : Pos}
/-- repr of data -/
theorem e_repr (hm : X.mg "repr" = none) (hG : X.A.guards = some []) (hu : X.A.units + 64 < cLine) (h : WE X e σ H fun x H1 => ∃ d, Dp X.K H1 x d ∧ d.showable = true ∧ d.depth ≤ 60 ∧ d.shown.length ≤ sizeLine ∧ Q (.str d.shown) H1) (hg : Gl X "repr" := by rfl)
    (he : starEach [e] X.env = (false, eval e X.env) :: starEach [] X.env := by rfl) (hpl : (backTo pos (starEach [] X.env)).any (·.1) = false := by rfl) : WE X (.Call (.Name "repr" p) [e] [] pos) σ H Q :=
  e_callB (call_repr hG hu) hm PyProof.Rows.boot_repr (a_cons (WE.mono h fun x H1 ⟨d, h1, h2, h3, h4, q⟩ => a_nil ⟨x, d, rfl, h1, h2, h3, h4, q⟩) he) hg (by decide) (by decide) he hpl
end
theorem shown_str {z : Str} (h : Sm z) (l : z.length ≤ 20000) : (PyData.str z).showable = true ∧ (PyData.str z).depth ≤ 60 ∧ (PyData.str z).shown.length ≤ sizeLine :=
  ⟨rfl, Nat.zero_le _, Nat.le_trans (StrLaws.reprText_len z fun c hc => Nat.lt_of_lt_of_le (h c hc) (by decide)) (by show 10 * z.length + 2 ≤ 2 ^ 24; omega)⟩
abbrev places : List PyData := [.tuple [.str "main", .str "emp"], .tuple [.str "main", .str "dept"], .tuple [.str "own", .str "emp"], .tuple [.str "own", .str "x"]]
theorem ok_places : ∀ d ∈ places, okPl d := fun d hd => by
  simp only [List.mem_cons, List.not_mem_nil, or_false] at hd
  rcases hd with rfl | rfl | rfl | rfl <;> exact ⟨_, _, rfl, nm_of (by decide +kernel), nm_of (by decide +kernel)⟩
abbrev plainD : PyData := .tuple [.bool false, .tuple [.tuple [.str "column", .tuple [.none, .str "a"], .str "a"]], .tuple [.tuple [.none, .str "t", .str "t"]], .tuple []]
theorem plain_ok : okSt plainD := by
  have na : okN (.str "a") := okN_of (by decide +kernel)
  have nt : okN (.str "t") := okN_of (by decide +kernel)
  refine ⟨_, _, _, _, rfl, ⟨by decide, fun d hd => ?_⟩, ⟨by decide, fun d hd => ?_⟩, ⟨by decide, fun d hd => by cases hd⟩⟩
  · have e : d = .tuple [.str "column", .tuple [.none, .str "a"], .str "a"] := by simpa using hd
    subst e
    exact .inr (.inl ⟨_, _, _, rfl, .inl rfl, na, na⟩)
  · have e : d = .tuple [.none, .str "t", .str "t"] := by simpa using hd
    subst e
    exact ⟨_, _, _, rfl, .inl rfl, nt, nt⟩
theorem plain_text : writeT plainD = "select a from t" := by decide +kernel
section
variable {P : Program} {w : World} {K : PySem.W.Frag} {mg : Str → Option Value} {base : Heap}
theorem scLaw : FnScope nLaw ["_law_script"] (defScope sLaw) := ⟨rfl, rfl, rfl, by decide +kernel, rfl, by decide +kernel, by decide +kernel⟩
theorem ok_law {f : Addr} {fd : FuncData} (F : Fun K "law" "law" sLaw f fd) (G : Bn mg) (cP : CalN P w K mg base 1 "_law_pen" (spPen K)) (cD : CalN P w K mg base 2 "_law_draw" spDraw) (cS : CalN P w K mg base 10 "_law_statement" spStatement) (cO : CalN P w K mg base 4 "_law_odd_statement" spOdd)
    (cW : CalN P w K mg base 7 "write" (spT okSt writeT)) (cT : CalN P w K mg base 7 "_law_text" (spT okSt writeT)) : FnG P w K mg base 11 f fd ["_law_script"] (spLaw K) := by
  refine Fun.okG F scLaw (fun vs H Q E h => by obtain ⟨a, ns, rfl, _⟩ := h; rfl) (fun cdv B out s H vs Q E hr hG h => ?_)
  obtain ⟨a, ns, rfl, hS, hl, q⟩ := h
  refine l_cons ?_
  with_reducible refine s_set 1 ?kz1 ?ndz1 ?hiz1 ?hxz1 ?hsz1 ?hfz1
  case ndz1 => exact scLaw.nd
  case hiz1 => rfl
  case hxz1 => first | exact Or.inl rfl | exact Or.inr rfl
  case hsz1 => rfl
  case hfz1 => first | exact .inl rfl | exact .inr rfl
  refine (e_c cP hr (by decide) (a_cons (e_var 0 rfl (a_nil ⟨a, ns, rfl, hS, hl, fun p L H1 s1 hp hL P1 => ?_⟩))))
  -- the places
  refine l_cons ?_
  with_reducible refine s_set 2 ?kz2 ?ndz2 ?hiz2 ?hxz2 ?hsz2 ?hfz2
  case ndz2 => exact scLaw.nd
  case hiz2 => rfl
  case hxz2 => first | exact Or.inl rfl | exact Or.inr rfl
  case hsz2 => rfl
  case hfz2 => first | exact .inl rfl | exact .inr rfl
  refine (e_lst ?_)
  refine a_cons (e_tup (a_cons (e_str (a_cons (e_str (a_nil ⟨by show 2 ≤ sizeLine; decide, fun u0 hu0 => ?_⟩))))))
  refine a_cons (e_tup (a_cons (e_str (a_cons (e_str (a_nil ⟨by show 2 ≤ sizeLine; decide, fun u1 hu1 => ?_⟩))))))
  refine a_cons (e_tup (a_cons (e_str (a_cons (e_str (a_nil ⟨by show 2 ≤ sizeLine; decide, fun u2 hu2 => ?_⟩))))))
  refine a_cons (e_tup (a_cons (e_str (a_cons (e_str (a_nil ⟨by show 2 ≤ sizeLine; decide, fun u3 hu3 => a_nil ⟨by show 4 ≤ sizeLine; decide, fun pl hpl => ?_⟩⟩))))))
  have y0 := same_new (o := .tup [V.str "main", .str "emp"]) hu0
  have y1 := same_new (o := .tup [V.str "main", .str "dept"]) hu1
  have y2 := same_new (o := .tup [V.str "own", .str "emp"]) hu2
  have y3 := same_new (o := .tup [V.str "own", .str "x"]) hu3
  have y4 := same_new (o := .lst [V.ref u0, .ref u1, .ref u2, .ref u3]) hpl
  have P2 := P1.same (y0.trans (y1.trans (y2.trans (y3.trans y4))))
  have npl : pl ≠ p := (P1.same (y0.trans (y1.trans (y2.trans y3)))).newP hpl
  have T0 := DT.mono (My.Same.tups (y1.trans (y2.trans (y3.trans y4)))) (DT.tup (H := upd H1 u0 (.tup [V.str "main", .str "emp"])) (ds := [.str "main", .str "emp"]) upd_same (.cons (.str _) (.cons (.str _) .nil)))
  have T1 := DT.mono (My.Same.tups (y2.trans (y3.trans y4))) (DT.tup (H := upd (upd H1 u0 (.tup [V.str "main", .str "emp"])) u1 (.tup [V.str "main", .str "dept"])) (ds := [.str "main", .str "dept"]) upd_same (.cons (.str _) (.cons (.str _) .nil)))
  have T2 := DT.mono (My.Same.tups (y3.trans y4)) (DT.tup (H := upd (upd (upd H1 u0 (.tup [V.str "main", .str "emp"])) u1 (.tup [V.str "main", .str "dept"])) u2 (.tup [V.str "own", .str "emp"])) (ds := [.str "own", .str "emp"]) upd_same (.cons (.str _) (.cons (.str _) .nil)))
  have T3 := DT.mono (My.Same.tups y4) (DT.tup (H := upd (upd (upd (upd H1 u0 (.tup [V.str "main", .str "emp"])) u1 (.tup [V.str "main", .str "dept"])) u2 (.tup [V.str "own", .str "emp"])) u3 (.tup [V.str "own", .str "x"])) (ds := [.str "own", .str "x"]) upd_same (.cons (.str _) (.cons (.str _) .nil)))
  have TS : DTs _ [V.ref u0, .ref u1, .ref u2, .ref u3] places := .cons T0 (.cons T1 (.cons T2 (.cons T3 .nil)))
  have hpl2 : (upd (upd (upd (upd (upd H1 u0 (.tup [V.str "main", .str "emp"])) u1 (.tup [V.str "main", .str "dept"])) u2 (.tup [V.str "own", .str "emp"])) u3 (.tup [V.str "own", .str "x"])) pl (.lst [V.ref u0, .ref u1, .ref u2, .ref u3])) pl = some (.lst [V.ref u0, .ref u1, .ref u2, .ref u3]) := upd_same
  show WL _ _ _ [some (.ref a), some (.ref p), some (.ref pl), none, none, none, none] (upd (upd (upd (upd (upd H1 u0 (.tup [V.str "main", .str "emp"])) u1 (.tup [V.str "main", .str "dept"])) u2 (.tup [V.str "own", .str "emp"])) u3 (.tup [V.str "own", .str "x"])) pl (.lst [V.ref u0, .ref u1, .ref u2, .ref u3]))
  generalize (upd (upd (upd (upd (upd H1 u0 (.tup [V.str "main", .str "emp"])) u1 (.tup [V.str "main", .str "dept"])) u2 (.tup [V.str "own", .str "emp"])) u3 (.tup [V.str "own", .str "x"])) pl (.lst [V.ref u0, .ref u1, .ref u2, .ref u3])) = H2 at P2 TS hpl2
  generalize ([V.ref u0, .ref u1, .ref u2, .ref u3] : List V) = px at TS hpl2
  -- thirty turns
  refine l_cons (s_forR G.range (pg_name (i := 3) scLaw.nd rfl (.inl rfl)) (e_int ?_) PassesOwn.never)
  refine ⟨30, rfl, by decide, fun i σ H => ∃ t3 t4 t5, σ = [some (.ref a), some (.ref p), some (.ref pl), t3, t4, t5, none] ∧ Pen H p L (i * 2100) ∧ H pl = some (.lst px) ∧ DTs H px places, ?_, ?_, ?_⟩
  · exact ⟨none, none, none, rfl, P2.mono (by omega), hpl2, TS⟩
  · rintro i σ H3 hi ⟨t3, t4, t5, rfl, P3, hpl3, TS3⟩
    have hb : i * 2100 ≤ 63000 := by omega
    refine l_cons ?_
    with_reducible refine s_set 4 ?kz3 ?ndz3 ?hiz3 ?hxz3 ?hsz3 ?hfz3
    case ndz3 => exact scLaw.nd
    case hiz3 => rfl
    case hxz3 => first | exact Or.inl rfl | exact Or.inr rfl
    case hsz3 => rfl
    case hfz3 => first | exact .inl rfl | exact .inr rfl
    refine ?_
    refine e_c cS hr (by decide) (a_cons (e_var 1 rfl (a_cons (e_var 2 rfl (a_cons (e_int (a_cons (e_cmp op_eq ?_))))))))
    refine e_c cD hr (by decide) (a_cons (e_var 1 rfl (a_cons (e_int (a_nil ⟨p, L, i * 2100, 3, rfl, P3, by omega, by decide, by decide, fun d4 H4 b4 P4 hd4 => e_int ⟨rfl, ?_⟩⟩)))))
    refine a_nil ⟨p, L, pl, i * 2100 + 1, px, places, _, rfl, P4, by omega, b4 _ _ npl hpl3, TS3.mono (Pen.tups P3 b4), npl, by decide, by decide, ok_places, fun v d H5 b5 P5 hv okd => ?_⟩
    have hpl5 := b5 _ _ npl (b4 _ _ npl hpl3)
    have TS5 := (TS3.mono (Pen.tups P3 b4)).mono (Pen.tups P4 b5)
    refine l_cons (WS.cut (P := fun σ H6 => ∃ v d, σ = [some (.ref a), some (.ref p), some (.ref pl), some (.int i), some v, t5, none] ∧ Pen H6 p L (i * 2100 + 2002) ∧ H6 pl = some (.lst px) ∧ DTs H6 px places ∧ DT H6 v d ∧ okSt d) (s_if (t_eq ?_)) ?_)
    · refine e_c cD hr (by decide) (a_cons (e_var 1 rfl (a_cons (e_int (a_nil ⟨p, L, i * 2100 + 1 + 1000, 2, rfl, P5, by omega, by decide, by decide, fun d6 H6 b6 P6 hd6 => e_int ⟨rfl, fun _ => ?_, fun _ => ?_⟩⟩)))))
      · refine l_one (s_set 4 (e_c cO hr (by decide) (a_cons (e_var 1 rfl (a_nil ⟨p, L, _, rfl, P6, by omega, fun v' d' H7 b7 P7 hv' okd' => ?_⟩)))) scLaw.nd)
        exact ⟨v', d', rfl, P7.mono (by omega), b7 _ _ npl (b6 _ _ npl hpl5), (TS5.mono (Pen.tups P5 b6)).mono (Pen.tups P6 b7), hv', okd'⟩
      · exact l_nil ⟨v, d, rfl, P6.mono (by omega), b6 _ _ npl hpl5, TS5.mono (Pen.tups P5 b6), hv.mono (Pen.tups P5 b6), okd⟩
    rintro σ H6 ⟨v, d, rfl, P6, hpl6, TS6, hv, okd⟩
    obtain ⟨fo, fs, fw, fd'⟩ := fineSt okd
    obtain ⟨sm, sl⟩ := write_ok okd
    obtain ⟨q1, q2, q3⟩ := shown_str sm sl
    refine l_cons ?_
    with_reducible refine s_set 5 ?kz4 ?ndz4 ?hiz4 ?hxz4 ?hsz4 ?hfz4
    case ndz4 => exact scLaw.nd
    case hiz4 => rfl
    case hxz4 => first | exact Or.inl rfl | exact Or.inr rfl
    case hsz4 => rfl
    case hfz4 => first | exact .inl rfl | exact .inr rfl
    refine (e_repr G.repr hG hr.units (e_var 4 rfl ⟨d, hv.dp, fw, fd', fs, ?_⟩))
    refine l_one (s_if (t_w (w_or (t_ne ?_))))
    refine e_repr G.repr hG hr.units ?_
    refine e_c cW hr (by decide) (a_cons (e_var 4 rfl (a_nil ⟨v, d, rfl, hv, okd, fun H7 s7 => ⟨_, .str _, q1, q2, q3, ?_⟩⟩)))
    have hv7 := hv.mono (My.Same.tups s7)
    refine e_repr G.repr hG hr.units ?_
    refine e_c cT hr (by decide) (a_cons (e_var 4 rfl (a_nil ⟨v, d, rfl, hv7, okd, fun H8 s8 => ⟨_, .str _, q1, q2, q3, rfl, fun e => ?_, fun _ => ?_⟩⟩)))
    · simp at e
    have hv8 := hv7.mono (My.Same.tups s8)
    refine w_or1 (t_ne ?_)
    refine e_repr G.repr hG hr.units (e_var 4 rfl ⟨d, hv8.dp, fw, fd', fs, e_var 5 rfl ⟨rfl, fun e => ?_, fun _ => l_nil ?_⟩⟩)
    · simp at e
    have s68 := s7.trans s8
    exact ⟨_, _, _, rfl, (P6.same s68).mono (by omega), s68 _ _ hpl6, TS6.mono (My.Same.tups s68)⟩
  rintro σ H3 ⟨t3, t4, t5, rfl, P3, hpl3, TS3⟩
  refine l_cons ?_
  with_reducible refine s_set 6 ?kz5 ?ndz5 ?hiz5 ?hxz5 ?hsz5 ?hfz5
  case ndz5 => exact scLaw.nd
  case hiz5 => rfl
  case hxz5 => first | exact Or.inl rfl | exact Or.inr rfl
  case hsz5 => rfl
  case hfz5 => first | exact .inl rfl | exact .inr rfl
  refine (e_tup ?_)
  refine a_cons (e_bl (a_cons (e_tup ?_)))
  refine a_cons (e_tup (a_cons (e_str (a_cons (e_tup (a_cons (e_non (a_cons (e_str (a_nil ⟨by show 2 ≤ sizeLine; decide, fun w0 hw0 => ?_⟩))))))))))
  refine a_cons (e_str (a_nil ⟨by show 3 ≤ sizeLine; decide, fun w1 hw1 => a_nil ⟨by show 1 ≤ sizeLine; decide, fun w2 hw2 => ?_⟩⟩))
  refine a_cons (e_tup (a_cons (e_tup ?_)))
  refine a_cons (e_non (a_cons (e_str (a_cons (e_str (a_nil ⟨by show 3 ≤ sizeLine; decide, fun w3 hw3 => a_nil ⟨by show 1 ≤ sizeLine; decide, fun w4 hw4 => ?_⟩⟩))))))
  refine a_cons (e_tup (a_nil ⟨Nat.zero_le _, fun w5 hw5 => a_nil ⟨by show 4 ≤ sizeLine; decide, fun w6 hw6 => ?_⟩⟩))
  have z0 := same_new (o := .tup [V.non, .str "a"]) hw0
  have z1 := same_new (o := .tup [V.str "column", .ref w0, .str "a"]) hw1
  have z2 := same_new (o := .tup [V.ref w1]) hw2
  have z3 := same_new (o := .tup [V.non, .str "t", .str "t"]) hw3
  have z4 := same_new (o := .tup [V.ref w3]) hw4
  have z5 := same_new (o := .tup []) hw5
  have z6 := same_new (o := .tup [V.bl false, .ref w2, .ref w4, .ref w5]) hw6
  have t6 := My.Same.tups z6
  have t56 := My.Same.tups (z5.trans z6)
  have t46 := My.Same.tups (z4.trans (z5.trans z6))
  have t36 := My.Same.tups (z3.trans (z4.trans (z5.trans z6)))
  have t26 := My.Same.tups (z2.trans (z3.trans (z4.trans (z5.trans z6))))
  have t16 := My.Same.tups (z1.trans (z2.trans (z3.trans (z4.trans (z5.trans z6)))))
  have D : DT _ (.ref w6) plainD := .tup (H := upd _ w6 (.tup [V.bl false, .ref w2, .ref w4, .ref w5])) upd_same (.cons (.bl _) (.cons (.tup (t36 _ _ upd_same) (.cons (.tup (t26 _ _ upd_same) (.cons (.str _) (.cons (.tup (t16 _ _ upd_same) (.cons .non (.cons (.str _) .nil))) (.cons (.str _) .nil)))) .nil)) (.cons (.tup (t56 _ _ upd_same) (.cons (.tup (t46 _ _ upd_same) (.cons .non (.cons (.str _) (.cons (.str _) .nil)))) .nil)) (.cons (.tup (t6 _ _ upd_same) .nil) .nil))))
  refine l_one (s_ret (e_cmp op_eq ?_))
  refine e_c cW hr (by decide) (a_cons (e_var 6 rfl (a_nil ⟨_, plainD, rfl, D, plain_ok, fun H7 s7 => e_str ⟨rfl, ?_⟩⟩)))
  rw [plain_text]
  have e : decide (V.str "select a from t" = V.str "select a from t") = true := decide_eq_true rfl
  rw [e]
  exact q _
end
end K10

namespace K10
open PySem PySem.Spec PyProof.Rows L2 My
/-! ### what the top has written -/
structure Wr (K : PySem.W.Frag) (x : Str) (st : Stmt) (f : Addr) (fd : FuncData) : Prop where
  fn : Fun K x x st f fd
  a : PySem.W.nsIn K mainGlobals x = some (some (.ref f))
theorem Wr.mg {K : PySem.W.Frag} {x : Str} {st : Stmt} {f : Addr} {fd : FuncData} {h : Heap} {mg : Str → Option Value} (W : Wr K x st f fd) (X : K.In h) (G : h.Ns mainGlobals mg) : mg x = some (.ref f) := PySem.W.mg_of X G W.a
theorem wr_mk {K : PySem.W.Frag} {x : Str} {st : Stmt} {f : Addr} {oc : Value} {od an : Option Addr} {osl : Array (Option Value)} {kV doc pm cdv ct : Value} (a : PySem.W.nsIn K mainGlobals x = some (some (.ref f))) (l : K.lookup f = some ⟨oc, od, .func (PySem.W.fnOf x x (defArgs st) (defBody st) (defScope st) .none kV doc pm an cdv ct), osl⟩)
    (c : PySem.W.codeIn K cdv x = true) (k : PySem.W.keepIn K (.ref f) = true) : ∃ fd, Wr K x st f fd := ⟨_, fun_mk (st := st) l c k, a⟩
theorem all_mk {l : PySem.W.OpenLaw} {w : World} {K : PySem.W.Frag} {h : Heap} {mg : Str → Option Value} {fa : Addr} (X : K.In h) (G : h.Ns mainGlobals mg) (hfa : mg "law" = some (.ref fa))
    (w_pen : ∃ f fd, Wr K "_law_pen" sPen f fd) (w_next : ∃ f fd, Wr K "_law_next" sNext f fd) (w_draw : ∃ f fd, Wr K "_law_draw" sDraw f fd) (w_dotted : ∃ f fd, Wr K "dotted" sDotted f fd) (w_quoted : ∃ f fd, Wr K "quoted" sQuoted f fd) (w_values : ∃ f fd, Wr K "text_of_values" sValues f fd) (w_term : ∃ f fd, Wr K "text_of_term" sTerm f fd) (w_told : ∃ f fd, Wr K "text_of_told" sTold f fd) (w_source : ∃ f fd, Wr K "text_of_source" sSource f fd) (w_cond : ∃ f fd, Wr K "text_of_condition" sCond f fd) (w_write : ∃ f fd, Wr K "write" sWrite f fd) (w_cellT : ∃ f fd, Wr K "_law_cell_text" sCellT f fd) (w_termT : ∃ f fd, Wr K "_law_term_text" sTermT f fd) (w_toldT : ∃ f fd, Wr K "_law_told_text" sToldT f fd) (w_askT : ∃ f fd, Wr K "_law_ask_text" sAskT f fd) (w_orgT : ∃ f fd, Wr K "_law_origin_text" sOrgT f fd) (w_text : ∃ f fd, Wr K "_law_text" sText f fd) (w_some : ∃ f fd, Wr K "_law_some" sSome f fd) (w_worths : ∃ f fd, Wr K "_law_worths" sWorths f fd) (w_cell : ∃ f fd, Wr K "_law_cell" sCell f fd) (w_lterm : ∃ f fd, Wr K "_law_term" sLTerm f fd) (w_statement : ∃ f fd, Wr K "_law_statement" sStatement f fd) (w_odd : ∃ f fd, Wr K "_law_odd_statement" sOdd f fd) (w_law : ∃ f fd, Wr K "law" sLaw f fd)
    (z_list : PySem.W.nsIn K mainGlobals "list" = some none) (z_len : PySem.W.nsIn K mainGlobals "len" = some none) (z_int : PySem.W.nsIn K mainGlobals "int" = some none) (z_isinstance : PySem.W.nsIn K mainGlobals "isinstance" = some none) (z_str : PySem.W.nsIn K mainGlobals "str" = some none) (z_min : PySem.W.nsIn K mainGlobals "min" = some none) (z_range : PySem.W.nsIn K mainGlobals "range" = some none) (z_sorted : PySem.W.nsIn K mainGlobals "sorted" = some none) (z_tuple : PySem.W.nsIn K mainGlobals "tuple" = some none) (z_repr : PySem.W.nsIn K mainGlobals "repr" = some none) :
    ∃ fd : FuncData, (∀ (s : Shared) (v : Value), BindsTo s fd ⟨[v], []⟩ [("_law_script", v)]) ∧ ∀ base : Heap, K.In base → base.Ns mainGlobals mg → FnG l.prog w K mg base 11 fa fd ["_law_script"] (spLaw K) := by
  obtain ⟨f_pen, d_pen, W_pen⟩ := w_pen
  obtain ⟨f_next, d_next, W_next⟩ := w_next
  obtain ⟨f_draw, d_draw, W_draw⟩ := w_draw
  obtain ⟨f_dotted, d_dotted, W_dotted⟩ := w_dotted
  obtain ⟨f_quoted, d_quoted, W_quoted⟩ := w_quoted
  obtain ⟨f_values, d_values, W_values⟩ := w_values
  obtain ⟨f_term, d_term, W_term⟩ := w_term
  obtain ⟨f_told, d_told, W_told⟩ := w_told
  obtain ⟨f_source, d_source, W_source⟩ := w_source
  obtain ⟨f_cond, d_cond, W_cond⟩ := w_cond
  obtain ⟨f_write, d_write, W_write⟩ := w_write
  obtain ⟨f_cellT, d_cellT, W_cellT⟩ := w_cellT
  obtain ⟨f_termT, d_termT, W_termT⟩ := w_termT
  obtain ⟨f_toldT, d_toldT, W_toldT⟩ := w_toldT
  obtain ⟨f_askT, d_askT, W_askT⟩ := w_askT
  obtain ⟨f_orgT, d_orgT, W_orgT⟩ := w_orgT
  obtain ⟨f_text, d_text, W_text⟩ := w_text
  obtain ⟨f_some, d_some, W_some⟩ := w_some
  obtain ⟨f_worths, d_worths, W_worths⟩ := w_worths
  obtain ⟨f_cell, d_cell, W_cell⟩ := w_cell
  obtain ⟨f_lterm, d_lterm, W_lterm⟩ := w_lterm
  obtain ⟨f_statement, d_statement, W_statement⟩ := w_statement
  obtain ⟨f_odd, d_odd, W_odd⟩ := w_odd
  obtain ⟨f_law, d_law, W_law⟩ := w_law
  have e := hfa.symm.trans (W_law.mg X G)
  cases e
  have Gn : Bn mg := { list := PySem.W.mg_none_of X G z_list, len := PySem.W.mg_none_of X G z_len, int := PySem.W.mg_none_of X G z_int, isi := PySem.W.mg_none_of X G z_isinstance, str := PySem.W.mg_none_of X G z_str, min := PySem.W.mg_none_of X G z_min, range := PySem.W.mg_none_of X G z_range, sorted := PySem.W.mg_none_of X G z_sorted, tuple := PySem.W.mg_none_of X G z_tuple, repr := PySem.W.mg_none_of X G z_repr }
  have Gm : Bm mg := Gn.toBm
  have Gl : Bl mg := Gm.toBl
  have b_pen := W_pen.fn.binds (ps := ["_law_script"]) fun _ _ _ _ _ _ us hl => match us, hl with | [_], _ => rfl
  have b_next := W_next.fn.binds (ps := ["_law_pen_here"]) fun _ _ _ _ _ _ us hl => match us, hl with | [_], _ => rfl
  have b_draw := W_draw.fn.binds (ps := ["_law_pen_here", "_law_under"]) fun _ _ _ _ _ _ us hl => match us, hl with | [_, _], _ => rfl
  have b_dotted := W_dotted.fn.binds (ps := ["first", "name"]) fun _ _ _ _ _ _ us hl => match us, hl with | [_, _], _ => rfl
  have b_quoted := W_quoted.fn.binds (ps := ["word"]) fun _ _ _ _ _ _ us hl => match us, hl with | [_], _ => rfl
  have b_values := W_values.fn.binds (ps := ["values"]) fun _ _ _ _ _ _ us hl => match us, hl with | [_], _ => rfl
  have b_term := W_term.fn.binds (ps := ["term"]) fun _ _ _ _ _ _ us hl => match us, hl with | [_], _ => rfl
  have b_told := W_told.fn.binds (ps := ["item"]) fun _ _ _ _ _ _ us hl => match us, hl with | [_], _ => rfl
  have b_source := W_source.fn.binds (ps := ["source"]) fun _ _ _ _ _ _ us hl => match us, hl with | [_], _ => rfl
  have b_cond := W_cond.fn.binds (ps := ["condition"]) fun _ _ _ _ _ _ us hl => match us, hl with | [_], _ => rfl
  have b_write := W_write.fn.binds (ps := ["statement"]) fun _ _ _ _ _ _ us hl => match us, hl with | [_], _ => rfl
  have b_cellT := W_cellT.fn.binds (ps := ["_law_cell_here"]) fun _ _ _ _ _ _ us hl => match us, hl with | [_], _ => rfl
  have b_termT := W_termT.fn.binds (ps := ["_law_term_here"]) fun _ _ _ _ _ _ us hl => match us, hl with | [_], _ => rfl
  have b_toldT := W_toldT.fn.binds (ps := ["_law_one"]) fun _ _ _ _ _ _ us hl => match us, hl with | [_], _ => rfl
  have b_askT := W_askT.fn.binds (ps := ["_law_one"]) fun _ _ _ _ _ _ us hl => match us, hl with | [_], _ => rfl
  have b_orgT := W_orgT.fn.binds (ps := ["_law_one"]) fun _ _ _ _ _ _ us hl => match us, hl with | [_], _ => rfl
  have b_text := W_text.fn.binds (ps := ["_law_statement_here"]) fun _ _ _ _ _ _ us hl => match us, hl with | [_], _ => rfl
  have b_some := W_some.fn.binds (ps := ["_law_pen_here", "_law_pool", "_law_most"]) fun _ _ _ _ _ _ us hl => match us, hl with | [_, _, _], _ => rfl
  have b_worths := W_worths.fn.binds (ps := ["_law_pen_here"]) fun _ _ _ _ _ _ us hl => match us, hl with | [_], _ => rfl
  have b_cell := W_cell.fn.binds (ps := ["_law_pen_here", "_law_labels"]) fun _ _ _ _ _ _ us hl => match us, hl with | [_, _], _ => rfl
  have b_lterm := W_lterm.fn.binds (ps := ["_law_pen_here", "_law_labels", "_law_depth", "_law_is_inner"]) fun _ _ _ _ _ _ us hl => match us, hl with | [_, _, _, _], _ => rfl
  have b_statement := W_statement.fn.binds (ps := ["_law_pen_here", "_law_places", "_law_most", "_law_is_inner"]) fun _ _ _ _ _ _ us hl => match us, hl with | [_, _, _, _], _ => rfl
  have b_odd := W_odd.fn.binds (ps := ["_law_pen_here"]) fun _ _ _ _ _ _ us hl => match us, hl with | [_], _ => rfl
  have b_law := W_law.fn.binds (ps := ["_law_script"]) fun _ _ _ _ _ _ us hl => match us, hl with | [_], _ => rfl
  obtain ⟨oc, od, kV, doc, pm, an, cdv, ct, osl, ed, _, _⟩ := W_law.fn.ex
  refine ⟨d_law, fun s v => by rw [ed]; exact .of_eq rfl, fun base _ _ => ?_⟩
  have c_next : CalN l.prog w K mg base 1 "_law_next" spNext := ⟨f_next, d_next, _, ok_next W_next.fn Gl, W_next.mg X G, W_next.fn.kp, b_next⟩
  have c_draw : CalN l.prog w K mg base 2 "_law_draw" spDraw := ⟨f_draw, d_draw, _, ok_draw W_draw.fn Gl c_next, W_draw.mg X G, W_draw.fn.kp, b_draw⟩
  have c_pen : CalN l.prog w K mg base 1 "_law_pen" (spPen K) := ⟨f_pen, d_pen, _, ok_pen W_pen.fn Gl, W_pen.mg X G, W_pen.fn.kp, b_pen⟩
  have c_dotted : CalN l.prog w K mg base 1 "dotted" spDot := ⟨f_dotted, d_dotted, _, ok_dotted W_dotted.fn, W_dotted.mg X G, W_dotted.fn.kp, b_dotted⟩
  have c_quoted : CalN l.prog w K mg base 1 "quoted" spQuo := ⟨f_quoted, d_quoted, _, ok_quoted W_quoted.fn, W_quoted.mg X G, W_quoted.fn.kp, b_quoted⟩
  have c_values : CalN l.prog w K mg base 2 "text_of_values" spVals := ⟨f_values, d_values, _, ok_values W_values.fn c_quoted, W_values.mg X G, W_values.fn.kp, b_values⟩
  have c_term : CalN l.prog w K mg base 5 "text_of_term" (spT (okTm 3) (termT 3)) := ⟨f_term, d_term, _, ok_term W_term.fn b_term (W_term.mg X G) Gm c_dotted c_quoted 3 (by decide), W_term.mg X G, W_term.fn.kp, b_term⟩
  have c_told : CalN l.prog w K mg base 6 "text_of_told" (spT okTold toldT) := ⟨f_told, d_told, _, ok_told W_told.fn c_term, W_told.mg X G, W_told.fn.kp, b_told⟩
  have c_source : CalN l.prog w K mg base 2 "text_of_source" (spT okSrc srcT) := ⟨f_source, d_source, _, ok_source W_source.fn c_dotted, W_source.mg X G, W_source.fn.kp, b_source⟩
  have c_cond : CalN l.prog w K mg base 6 "text_of_condition" (spT okCond condT) := ⟨f_cond, d_cond, _, ok_cond W_cond.fn c_term c_values, W_cond.mg X G, W_cond.fn.kp, b_cond⟩
  have c_write : CalN l.prog w K mg base 7 "write" (spT okSt writeT) := ⟨f_write, d_write, _, ok_write W_write.fn c_told c_source c_cond, W_write.mg X G, W_write.fn.kp, b_write⟩
  have c_cellT : CalN l.prog w K mg base 1 "_law_cell_text" (spT okC cellT) := ⟨f_cellT, d_cellT, _, ok_cellT W_cellT.fn, W_cellT.mg X G, W_cellT.fn.kp, b_cellT⟩
  have c_termT : CalN l.prog w K mg base 5 "_law_term_text" (spT (okTm 3) (termT 3)) := ⟨f_termT, d_termT, _, ok_termT W_termT.fn b_termT (W_termT.mg X G) Gm c_cellT 3 (by decide), W_termT.mg X G, W_termT.fn.kp, b_termT⟩
  have c_toldT : CalN l.prog w K mg base 6 "_law_told_text" (spT okTold toldT) := ⟨f_toldT, d_toldT, _, ok_toldT W_toldT.fn c_cellT c_termT, W_toldT.mg X G, W_toldT.fn.kp, b_toldT⟩
  have c_askT : CalN l.prog w K mg base 2 "_law_ask_text" (spT okCond condT) := ⟨f_askT, d_askT, _, ok_askT W_askT.fn c_cellT, W_askT.mg X G, W_askT.fn.kp, b_askT⟩
  have c_orgT : CalN l.prog w K mg base 2 "_law_origin_text" (spT okSrc srcT) := ⟨f_orgT, d_orgT, _, ok_orgT W_orgT.fn c_cellT, W_orgT.mg X G, W_orgT.fn.kp, b_orgT⟩
  have c_text : CalN l.prog w K mg base 7 "_law_text" (spT okSt writeT) := ⟨f_text, d_text, _, ok_text W_text.fn Gm c_toldT c_orgT c_askT, W_text.mg X G, W_text.fn.kp, b_text⟩
  have c_some : CalN l.prog w K mg base 3 "_law_some" (spSome K) := ⟨f_some, d_some, _, ok_some W_some.fn Gn c_draw, W_some.mg X G, W_some.fn.kp, b_some⟩
  have c_worths : CalN l.prog w K mg base 4 "_law_worths" spWorths := ⟨f_worths, d_worths, _, ok_worths W_worths.fn Gn c_some, W_worths.mg X G, W_worths.fn.kp, b_worths⟩
  have c_cell : CalN l.prog w K mg base 3 "_law_cell" (spCell K) := ⟨f_cell, d_cell, _, ok_cell W_cell.fn Gn c_draw, W_cell.mg X G, W_cell.fn.kp, b_cell⟩
  have c_lterm : CalN l.prog w K mg base 7 "_law_term" (spLTermA K) := ⟨f_lterm, d_lterm, _, ok_ltermA (ok_lterm W_lterm.fn b_lterm (W_lterm.mg X G) Gn c_draw c_cell), W_lterm.mg X G, W_lterm.fn.kp, b_lterm⟩
  have c_statement : CalN l.prog w K mg base 10 "_law_statement" spStatement := ⟨f_statement, d_statement, _, ok_statement W_statement.fn Gn c_draw c_lterm c_cell c_worths, W_statement.mg X G, W_statement.fn.kp, b_statement⟩
  have c_odd : CalN l.prog w K mg base 4 "_law_odd_statement" spOdd := ⟨f_odd, d_odd, _, ok_odd W_odd.fn Gn c_draw c_some, W_odd.mg X G, W_odd.fn.kp, b_odd⟩
  exact ok_law W_law.fn Gn c_pen c_draw c_statement c_odd c_write c_text
end K10

open PySem PySem.W PyProof.Rows
set_option maxRecDepth 100000 in
set_option maxHeartbeats 0 in
theorem PySem.Challenge.cw_boundonce_k10_texts_written_holds : PySem.Challenge.rw_boundonce_k10_texts_written.Holds := by
  w_on; o_law; k_head; (case hw => w_witness2)
  k_fill
  refine My.walk_G (l := PySem.Challenge.rw_boundonce_k10_texts_written) (n := 63) (k := 11) (x := "_law_script") (sp := fun w => K10.spLaw _) rfl (by decide) rfl ⟨rfl, by decide, by decide⟩ (fun w h Y => PySem.W.kIn_of Y) ?F (fun w H a ns hl _ hS => ⟨a, ns, rfl, hS, hl, fun _ => rfl⟩)
  case F =>
    intro w mg fa h KX G hmg
    refine' K10.all_mk KX G hmg ?w_pen ?w_next ?w_draw ?w_dotted ?w_quoted ?w_values ?w_term ?w_told ?w_source ?w_cond ?w_write ?w_cellT ?w_termT ?w_toldT ?w_askT ?w_orgT ?w_text ?w_some ?w_worths ?w_cell ?w_lterm ?w_statement ?w_odd ?w_law ?z_list ?z_len ?z_int ?z_isinstance ?z_str ?z_min ?z_range ?z_sorted ?z_tuple ?z_repr
    (case w_pen => refine' ⟨_, K10.wr_mk ?a ?l ?c ?k⟩; (case a => k_is); (case l => k_is); (case c => k_is); (case k => k_is))
    (case w_next => refine' ⟨_, K10.wr_mk ?a ?l ?c ?k⟩; (case a => k_is); (case l => k_is); (case c => k_is); (case k => k_is))
    (case w_draw => refine' ⟨_, K10.wr_mk ?a ?l ?c ?k⟩; (case a => k_is); (case l => k_is); (case c => k_is); (case k => k_is))
    (case w_dotted => refine' ⟨_, K10.wr_mk ?a ?l ?c ?k⟩; (case a => k_is); (case l => k_is); (case c => k_is); (case k => k_is))
    (case w_quoted => refine' ⟨_, K10.wr_mk ?a ?l ?c ?k⟩; (case a => k_is); (case l => k_is); (case c => k_is); (case k => k_is))
    (case w_values => refine' ⟨_, K10.wr_mk ?a ?l ?c ?k⟩; (case a => k_is); (case l => k_is); (case c => k_is); (case k => k_is))
    (case w_term => refine' ⟨_, K10.wr_mk ?a ?l ?c ?k⟩; (case a => k_is); (case l => k_is); (case c => k_is); (case k => k_is))
    (case w_told => refine' ⟨_, K10.wr_mk ?a ?l ?c ?k⟩; (case a => k_is); (case l => k_is); (case c => k_is); (case k => k_is))
    (case w_source => refine' ⟨_, K10.wr_mk ?a ?l ?c ?k⟩; (case a => k_is); (case l => k_is); (case c => k_is); (case k => k_is))
    (case w_cond => refine' ⟨_, K10.wr_mk ?a ?l ?c ?k⟩; (case a => k_is); (case l => k_is); (case c => k_is); (case k => k_is))
    (case w_write => refine' ⟨_, K10.wr_mk ?a ?l ?c ?k⟩; (case a => k_is); (case l => k_is); (case c => k_is); (case k => k_is))
    (case w_cellT => refine' ⟨_, K10.wr_mk ?a ?l ?c ?k⟩; (case a => k_is); (case l => k_is); (case c => k_is); (case k => k_is))
    (case w_termT => refine' ⟨_, K10.wr_mk ?a ?l ?c ?k⟩; (case a => k_is); (case l => k_is); (case c => k_is); (case k => k_is))
    (case w_toldT => refine' ⟨_, K10.wr_mk ?a ?l ?c ?k⟩; (case a => k_is); (case l => k_is); (case c => k_is); (case k => k_is))
    (case w_askT => refine' ⟨_, K10.wr_mk ?a ?l ?c ?k⟩; (case a => k_is); (case l => k_is); (case c => k_is); (case k => k_is))
    (case w_orgT => refine' ⟨_, K10.wr_mk ?a ?l ?c ?k⟩; (case a => k_is); (case l => k_is); (case c => k_is); (case k => k_is))
    (case w_text => refine' ⟨_, K10.wr_mk ?a ?l ?c ?k⟩; (case a => k_is); (case l => k_is); (case c => k_is); (case k => k_is))
    (case w_some => refine' ⟨_, K10.wr_mk ?a ?l ?c ?k⟩; (case a => k_is); (case l => k_is); (case c => k_is); (case k => k_is))
    (case w_worths => refine' ⟨_, K10.wr_mk ?a ?l ?c ?k⟩; (case a => k_is); (case l => k_is); (case c => k_is); (case k => k_is))
    (case w_cell => refine' ⟨_, K10.wr_mk ?a ?l ?c ?k⟩; (case a => k_is); (case l => k_is); (case c => k_is); (case k => k_is))
    (case w_lterm => refine' ⟨_, K10.wr_mk ?a ?l ?c ?k⟩; (case a => k_is); (case l => k_is); (case c => k_is); (case k => k_is))
    (case w_statement => refine' ⟨_, K10.wr_mk ?a ?l ?c ?k⟩; (case a => k_is); (case l => k_is); (case c => k_is); (case k => k_is))
    (case w_odd => refine' ⟨_, K10.wr_mk ?a ?l ?c ?k⟩; (case a => k_is); (case l => k_is); (case c => k_is); (case k => k_is))
    (case w_law => refine' ⟨_, K10.wr_mk ?a ?l ?c ?k⟩; (case a => k_is); (case l => k_is); (case c => k_is); (case k => k_is))
    (case z_list => k_is)
    (case z_len => k_is)
    (case z_int => k_is)
    (case z_isinstance => k_is)
    (case z_str => k_is)
    (case z_min => k_is)
    (case z_range => k_is)
    (case z_sorted => k_is)
    (case z_tuple => k_is)
    (case z_repr => k_is)
