import PyProof.Rows.All
import Wide.All
import OpenK.AllK
import Wide.FinOn
import HandS.Comp
import HandS.Ends
import HandS.Text
import HandS.Words
import PyProof.ReprRoads
import HandS.Iter
import HandS.IsInst
import HandS.CallLocal
import HandS.ForMost
import PyProof.StrBlock2
import PyProof.StrLawsRepr
import HandS.Dict
import PyProof.RowDictHeap
import PyProof.EqKinds
import PyProof.NeKinds
import PyProof.NeData
import HandS.Strs
import PyProof.Rows.SortStr
import HandS.SetFor
import HandS.TupAny
import PyProof.Rows.StrMeet
import HandS.Deep
import HandS.StrMore
import HandS.TupMul
import HandS.Style
import PySem.Challenge.RW_boundonce_k04_statements_by_form
set_option Elab.async false
set_option linter.all false
set_option maxRecDepth 100000
set_option maxHeartbeats 4000000

/-! My own layer over the hand layer: what is wanted of an expression, a test, a statement, forward. -/
namespace My
open PySem PySem.Spec PyProof.Rows L2
section
variable {X : Cx}
structure WE (X : Cx) (e : Expr) (σ : L2.St) (H : Hp) (Q : VK) : Prop where
  go : ∀ (pins : List (Addr × Obj)) (s : Shared), Inv X pins σ H s →
  wpAny (model X.prog X.w) X.A (eval e X.env) (EP X pins σ Q) X.xe s
structure WT (X : Cx) (e : Expr) (σ : L2.St) (H : Hp) (R : Bool → Hp → Prop) : Prop where
  go : ∀ (pins : List (Addr × Obj)) (s : Shared), Inv X pins σ H s →
  wpAny (model X.prog X.w) X.A (isTrue e X.env (eval e X.env)) (TP X pins σ R) X.xe s
structure WW (X : Cx) (e : Expr) (σ : L2.St) (H : Hp) (R : Bool → Hp → Prop) : Prop where
  go : ∀ (whole : Sem Value) (pins : List (Addr × Obj)) (s : Shared), Inv X pins σ H s →
  wpAny (model X.prog X.w) X.A (isTrue e X.env whole) (TP X pins σ R) X.xe s
structure WA (X : Cx) (es : List Expr) (σ : L2.St) (H : Hp) (U : List V → Hp → Prop) : Prop where
  go : ∀ (pos : Pos) (pins : List (Addr × Obj)) (s : Shared), Inv X pins σ H s →
  wpAny (model X.prog X.w) X.A (spliced (backTo pos (starEach es X.env))) (AP X pins σ U) X.xe s
structure WS (X : Cx) (st : Stmt) (D : Ends) (σ : L2.St) (H : Hp) : Prop where
  go : ∀ (pins : List (Addr × Obj)) (s : Shared), Inv X pins σ H s →
  wpAny (model X.prog X.w) X.A (exec st X.env) (SP X pins D) X.xe s
structure WL (X : Cx) (st : List Stmt) (D : Ends) (σ : L2.St) (H : Hp) : Prop where
  go : ∀ (pins : List (Addr × Obj)) (s : Shared), Inv X pins σ H s →
  wpAny (model X.prog X.w) X.A (execs st X.env) (SP X pins D) X.xe s
theorem pE {e : Expr} : PE X e (WE X e) := ⟨fun pins s _ _ _ I h => h.go pins s I⟩
theorem pT {e : Expr} : PT X e (WT X e) := ⟨fun pins s _ _ _ I h => h.go pins s I⟩
theorem pW {e : Expr} : PW X e (WW X e) := ⟨fun wh pins s _ _ _ I h => h.go wh pins s I⟩
theorem pA {es : List Expr} : PA X es (WA X es) := ⟨fun pos pins s _ _ _ I h => h.go pos pins s I⟩
theorem pS {st : Stmt} : PS X st (WS X st) := ⟨fun pins s _ _ _ I h => h.go pins s I⟩
theorem pL {st : List Stmt} : PSs X st (WL X st) := ⟨fun pins s _ _ _ I h => h.go pins s I⟩
variable {e a b c : Expr} {es rest : List Expr} {t : TE} {tt : TT} {ta : TA} {ts : TS} {σ : L2.St} {H : Hp} {Q : VK} {R : Bool → Hp → Prop} {U : List V → Hp → Prop} {D : Ends} {pos pos' : Pos} {st : Stmt} {sts : List Stmt} {v : V} {x : Str}
theorem toE (h : PE X e t) (q : t σ H Q) : WE X e σ H Q := ⟨fun pins s I => h.run pins s σ H Q I q⟩
theorem toT (h : PT X e tt) (q : tt σ H R) : WT X e σ H R := ⟨fun pins s I => h.run pins s σ H R I q⟩
theorem toW (h : PW X e tt) (q : tt σ H R) : WW X e σ H R := ⟨fun wh pins s I => h.run wh pins s σ H R I q⟩
theorem toA (h : PA X es ta) (q : ta σ H U) : WA X es σ H U := ⟨fun pos pins s I => h.run pos pins s σ H U I q⟩
theorem toS (h : PS X st ts) (q : ts D σ H) : WS X st D σ H := ⟨fun pins s I => h.run pins s σ H D I q⟩
theorem toL (h : PSs X sts ts) (q : ts D σ H) : WL X sts D σ H := ⟨fun pins s I => h.run pins s σ H D I q⟩
theorem WE.mono {Q' : VK} (h : WE X e σ H Q) (k : ∀ v H', Q v H' → Q' v H') : WE X e σ H Q' := ⟨fun pins s I =>
  thn (h.go pins s I) fun _ _ ⟨v, H', I', r, q⟩ => ⟨v, H', I', r, k v H' q⟩⟩
theorem SP.mono {pins : List (Addr × Obj)} {D' : Ends} {f : Flow} {s' : Shared} (h : SP X pins D f s') (k1 : ∀ σ H, D.nx σ H → D'.nx σ H) (k2 : ∀ v H, D.rt v H → D'.rt v H)
    (k3 : ∀ σ H, D.bk σ H → D'.bk σ H) (k4 : ∀ σ H, D.ct σ H → D'.ct σ H) : SP X pins D' f s' := by
  cases f with
  | next => obtain ⟨σ', H', I, q⟩ := h; exact ⟨σ', H', I, k1 _ _ q⟩
  | brk => obtain ⟨σ', H', I, q⟩ := h; exact ⟨σ', H', I, k3 _ _ q⟩
  | cont => obtain ⟨σ', H', I, q⟩ := h; exact ⟨σ', H', I, k4 _ _ q⟩
  | ret u => obtain ⟨v, σ', H', I, r, q⟩ := h; exact ⟨v, σ', H', I, r, k2 _ _ q⟩
theorem WS.mono {D' : Ends} (h : WS X st D σ H) (k1 : ∀ σ H, D.nx σ H → D'.nx σ H) (k2 : ∀ v H, D.rt v H → D'.rt v H) (k3 : ∀ σ H, D.bk σ H → D'.bk σ H) (k4 : ∀ σ H, D.ct σ H → D'.ct σ H) : WS X st D' σ H :=
  ⟨fun pins s I => thn (h.go pins s I) fun _ _ q => SP.mono q k1 k2 k3 k4⟩
/-- cut behind a statement: P stands there -/
theorem WS.cut {D : Ends} {nx : L2.St → Hp → Prop} (P : L2.St → Hp → Prop) (h : WS X st { D with nx := P } σ H) (k : ∀ σ H, P σ H → nx σ H) : WS X st { D with nx := nx } σ H :=
  WS.mono h k (fun _ _ q => q) (fun _ _ q => q) (fun _ _ q => q)

/-! expressions -/
theorem e_var (i : Nat) (h : σ[i]? = some (some v)) (q : Q v H) (hN : X.N[i]? = some x := by rfl) (hv : Vis X.env.scope x := by first | exact Or.inl rfl | exact Or.inr (Or.inl rfl) | exact Or.inr (Or.inr rfl))
    (hd : (x == ("__debug__" : Str)) = false := by decide) (hcd : (x == ("__classdict__" : Str)) = false := by decide) : WE X (.Name x pos) σ H Q := toE (pe_var hN hv hd hcd) ⟨v, h, q⟩
theorem e_int {i : Int} {j} (q : Q (.int i) H) : WE X (.Constant (.int i) j pos) σ H Q := toE pe_int q
theorem e_bl {i : Bool} {j} (q : Q (.bl i) H) : WE X (.Constant (.bool i) j pos) σ H Q := toE pe_bl q
theorem e_non {j} (q : Q .non H) : WE X (.Constant .none j pos) σ H Q := toE pe_non q
theorem e_str {z : Str} {j} (q : Q (.str z) H) : WE X (.Constant (.str z) j pos) σ H Q := toE pe_str q
theorem e_glob {u : Value} (hm : X.mg x = some u) (r : RelV v u) (q : Q v H) (hg : Gl X x := by rfl) (hd : (x == ("__debug__" : Str)) = false := by decide) : WE X (.Name x pos) σ H Q := toE (pe_glob hg hm r hd) q
theorem e_bltn {u : Value} (hm : X.mg x = none) (hv : bootBuiltins x = some u) (r : RelV v u) (q : Q v H) (hg : Gl X x := by rfl) (hn : x ≠ "__name__" := by decide) (hd : (x == ("__debug__" : Str)) = false := by decide) : WE X (.Name x pos) σ H Q :=
  toE (pe_bltn hg hm hv r hn hd) q
theorem e_op {op : Operator} {r : R2} (ho : OpR X (binaryOp op) r) (h : WE X a σ H fun x H1 => WE X b σ H1 fun y H2 => r x y H2 Q) : WE X (.BinOp a op b pos) σ H Q := toE (pe_op ho pE pE) h
theorem e_un {op : UnaryOp} {r : V → Hp → VK → Prop} (ho : UnR X (unaryOp op) r) (h : WE X a σ H fun x H1 => r x H1 Q) : WE X (.UnaryOp op a pos) σ H Q := toE (pe_un ho pE) h
theorem e_cmp {op : CmpOp} {r : R2} (ho : OpR X (compareOp op) r) (h : WE X a σ H fun x H1 => WE X b σ H1 fun y H2 => r x y H2 Q) (hm : behindInMarks op b = false := by first | exact nomark _ | with_unfolding_all rfl) : WE X (.Compare a [op] [b] pos) σ H Q :=
  toE (pe_cmpR ho pE pE hm) h
theorem e_and (h : WE X a σ H fun x H1 => ∃ k, x = .bl k ∧ (k = true → WE X (.BoolOp .And (b :: rest) pos) σ H1 Q) ∧ (k = false → Q (.bl false) H1)) : WE X (.BoolOp .And (a :: b :: rest) pos) σ H Q :=
  toE (pe_and pE pE) (WE.mono h fun v H' ⟨k, e, h1, h2⟩ => ⟨k, e, by cases k with | true => exact h1 rfl | false => exact h2 rfl⟩)
theorem e_or (h : WE X a σ H fun x H1 => ∃ k, x = .bl k ∧ (k = true → Q (.bl true) H1) ∧ (k = false → WE X (.BoolOp .Or (b :: rest) pos) σ H1 Q)) : WE X (.BoolOp .Or (a :: b :: rest) pos) σ H Q :=
  toE (pe_or pE pE) (WE.mono h fun v H' ⟨k, e, h1, h2⟩ => ⟨k, e, by cases k with | true => exact h1 rfl | false => exact h2 rfl⟩)
theorem e_one {op} (h : WE X a σ H Q) : WE X (.BoolOp op [a] pos) σ H Q := toE (pe_one pE) h
theorem e_not (h : WE X a σ H fun x H1 => ∃ k, x = .bl k ∧ Q (.bl (!k)) H1) : WE X (.UnaryOp .Not a pos) σ H Q := toE (pe_not pE) h
theorem e_if (h : WT X c σ H fun k H1 => (k = true → WE X a σ H1 Q) ∧ (k = false → WE X b σ H1 Q)) : WE X (.IfExp c a b pos) σ H Q :=
  toE (pe_ifExp (tA := fun σ H R => WT X c σ H R) pT pE pE) ⟨fun pins s I => thn (h.go pins s I) fun k s' ⟨H', I', h1, h2⟩ => ⟨H', I', by cases k with | true => exact h1 rfl | false => exact h2 rfl⟩⟩
theorem e_tup {k} (h : WA X es σ H fun xs H1 => xs.length ≤ sizeLine ∧ ∀ p, H1 p = none → Q (.ref p) (upd H1 p (.tup xs))) : WE X (.Tuple es k pos) σ H Q := toE (pe_tup pA) h
theorem e_lst (h : WA X es σ H fun xs H1 => xs.length ≤ sizeLine ∧ ∀ p, H1 p = none → Q (.ref p) (upd H1 p (.lst xs))) : WE X (.List es pos) σ H Q := toE (pe_lst pA) h
theorem e_ix {r : R2} (hr : IxR X r) (h : WE X a σ H fun x H1 => WE X b σ H1 fun y H2 => r x y H2 Q) (hs : PlainIx b := by exact fun _ _ => rfl) : WE X (.Subscript a b pos) σ H Q := toE (pe_ix hr pE pE hs) h
theorem e_callB {id : String} {r : List V → Hp → VK → Prop} {p : Pos} (hc : CallR X (.builtin id) r) (hm : X.mg x = none) (hv : bootBuiltins x = some (.builtin id)) (h : WA X (e :: es) σ H fun vs H1 => r vs H1 Q) (hg : Gl X x := by rfl)
    (hn : x ≠ "__name__" := by decide) (hdb : (x == ("__debug__" : Str)) = false := by decide) (he : starEach (e :: es) X.env = (false, eval e X.env) :: starEach es X.env := by rfl) (hpl : (backTo pos (starEach es X.env)).any (·.1) = false := by rfl) :
    WE X (.Call (.Name x p) (e :: es) [] pos) σ H Q := toE (pe_callB hc hg hm hv pA hn hdb he hpl) h
theorem e_callT {T : String} {r : List V → Hp → VK → Prop} {p : Pos} (hc : CallR X (.type T) r) (hm : X.mg x = none) (hv : bootBuiltins x = some (.type T)) (h : WA X (e :: es) σ H fun vs H1 => r vs H1 Q) (hg : Gl X x := by rfl)
    (hn : x ≠ "__name__" := by decide) (hdb : (x == ("__debug__" : Str)) = false := by decide) (he : starEach (e :: es) X.env = (false, eval e X.env) :: starEach es X.env := by rfl) (hpl : (backTo pos (starEach es X.env)).any (·.1) = false := by rfl) :
    WE X (.Call (.Name x p) (e :: es) [] pos) σ H Q := toE (pe_callTy hc hg hm hv pA hn hdb he hpl) h
theorem a_nil (q : U [] H) : WA X [] σ H U := toA pa_nil q
theorem a_cons (h : WE X e σ H fun x H1 => WA X es σ H1 fun xs H2 => U (x :: xs) H2) (hs : starEach (e :: es) X.env = (false, eval e X.env) :: starEach es X.env := by rfl) : WA X (e :: es) σ H U := toA (pa_cons pE pA hs) h

/-! tests -/
theorem t_cmp {op : CmpOp} {r : R2} (ho : OpR X (compareOp op) r) (h : WE X a σ H fun x H1 => WE X b σ H1 fun y H2 => r x y H2 fun z H3 => ∃ k, z = .bl k ∧ R k H3) (hm : behindInMarks op b = false := by first | exact nomark _ | with_unfolding_all rfl) : WT X (.Compare a [op] [b] pos) σ H R :=
  toT (pt_cmpR ho pE pE hm) h
theorem t_chain {op op' : CmpOp} {r r' : R2} (ho : OpR X (compareOp op) r) (ho' : OpR X (compareOp op') r') (h : tChain r r' (WE X a) (WE X b) (WE X c) σ H fun z H3 => ∃ k, z = .bl k ∧ R k H3)
    (hm : lastMarks [op, op'] [b, c] = false := by with_unfolding_all rfl) : WT X (.Compare a [op, op'] [b, c] pos) σ H R := toT (pt_chain ho ho' pE pE pE hm) h
theorem e_chain {op op' : CmpOp} {r r' : R2} (ho : OpR X (compareOp op) r) (ho' : OpR X (compareOp op') r') (h : tChain r r' (WE X a) (WE X b) (WE X c) σ H Q)
    (hm : lastMarks [op, op'] [b, c] = false := by with_unfolding_all rfl) : WE X (.Compare a [op, op'] [b, c] pos) σ H Q := toE (pe_chain ho ho' pE pE pE hm) h
theorem t_not (h : WT X a σ H fun k H1 => R (!k) H1) : WT X (.UnaryOp .Not a pos) σ H R := toT (pt_not pT) h
theorem WT.mono {R' : Bool → Hp → Prop} (h : WT X e σ H R) (k : ∀ b H', R b H' → R' b H') : WT X e σ H R' := ⟨fun pins s I => thn (h.go pins s I) fun _ _ ⟨H', I', q⟩ => ⟨H', I', k _ H' q⟩⟩
theorem w_and (h : WT X a σ H fun k H1 => (k = true → WW X (.BoolOp .And (b :: rest) pos) σ H1 R) ∧ (k = false → R false H1)) : WW X (.BoolOp .And (a :: b :: rest) pos) σ H R :=
  toW (pw_and pT pW) (WT.mono h fun k H' ⟨h1, h2⟩ => by cases k with | true => exact h1 rfl | false => exact h2 rfl)
theorem w_or (h : WT X a σ H fun k H1 => (k = true → R true H1) ∧ (k = false → WW X (.BoolOp .Or (b :: rest) pos) σ H1 R)) : WW X (.BoolOp .Or (a :: b :: rest) pos) σ H R :=
  toW (pw_or pT pW) (WT.mono h fun k H' ⟨h1, h2⟩ => by cases k with | true => exact h1 rfl | false => exact h2 rfl)
theorem w_and1 (h : WT X a σ H R) : WW X (.BoolOp .And [a] pos) σ H R := toW (pw_and1 pT) h
theorem w_or1 (h : WT X a σ H R) : WW X (.BoolOp .Or [a] pos) σ H R := toW (pw_or1 pT) h
theorem t_w (h : WW X e σ H R) : WT X e σ H R := ⟨fun pins s I => h.go _ pins s I⟩
theorem t_val (h : WE X e σ H fun x H1 => ∃ k, x = .bl k ∧ R k H1) (he : ∀ whole, isTrue e X.env whole = (do let v ← whole; standAt e.pos; holding [v] (truthy v)) := by intro _; rfl) : WT X e σ H R := toT (pt_val pE he) h
theorem t_tru (h : WE X e σ H fun x H1 => ∃ k, TruV X.K x H1 k ∧ R k H1) (he : ∀ whole, isTrue e X.env whole = (do let v ← whole; standAt e.pos; holding [v] (truthy v)) := by intro _; rfl) : WT X e σ H R := toT (pt_truth pE he) h

/-! statements -/
theorem l_nil (q : D.nx σ H) : WL X [] D σ H := toL pss_nil q
theorem l_cons (h : WS X st { D with nx := fun σ' H' => WL X sts D σ' H' } σ H) : WL X (st :: sts) D σ H := toL (pss_cons pS pL) h
theorem l_one (h : WS X st D σ H) : WL X [st] D σ H := toL (pss_one pS) h
theorem s_ret (h : WE X e σ H D.rt) : WS X (.Return (some e) pos) D σ H := toS (ps_ret pE) h
theorem s_if {l1 l2 : List Stmt} (h : WT X c σ H fun k H1 => (k = true → WL X l1 D σ H1) ∧ (k = false → WL X l2 D σ H1)) : WS X (.If c l1 l2 pos) D σ H :=
  toS (ps_if pT pL pL) (WT.mono h fun k H' ⟨h1, h2⟩ => by cases k with | true => exact h1 rfl | false => exact h2 rfl)
theorem s_set (i : Nat) (h : WE X e σ H fun v H1 => D.nx (σ.set i (some v)) H1) (hN : X.N.Nodup) (hi : X.N[i]? = some x := by rfl) (hx : Loc X.env.scope x := by first | exact Or.inl rfl | exact Or.inr rfl)
    (hs : swapsWith e (some (.Name x pos')) pos.line X.env = pure false := by rfl) (hf : X.fn x = true ∨ X.env.scope.names.lookup x = some .local := by first | exact .inl rfl | exact .inr rfl | assumption) : WS X (.Assign [.Name x pos'] e pos) D σ H :=
  toS (ps_set hN hi hx pE hs hf) h
theorem s_expr (h : WE X e σ H fun _ H1 => D.nx σ H1) (hs : swapsWith e none pos.line X.env = pure false := by rfl) : WS X (.Expr e pos) D σ H := toS (ps_expr pE hs) h
theorem s_asg {tg : Expr} {g : TG} (hg : PG X tg g) (h : WE X e σ H fun v H1 => g v σ H1 D.nx) (hs : swapsWithSole [tg] e pos.line X.env = pure false := by rfl) (hw : swappedStores [tg] e X.env = pure none := by rfl)
    (h1 : (assignEach [tg] X.env).map (·.2) = [assign tg X.env] := by rfl) : WS X (.Assign [tg] e pos) D σ H := toS (ps_asg pE hg hs hw h1) h
end
end My

namespace My
open PySem PySem.Spec PyProof.Rows L2

/-! ### defs that may ask for a repr: called where no repr runs -/
structure FnG (P : Program) (w : World) (K : PySem.W.Frag) (mg : Str → Option Value) (base : Heap) (k : Nat) (f : Addr) (fd : FuncData) (ps : List Str) (sp : Sp) : Prop where
  len : ∀ vs H Q E, sp vs H Q E → vs.length = ps.length
  go : ∀ (B : Around) (out : List Env) (s : Shared) (H : Hp) (ar : Args) (us : List Value) (vs : List V) (Q : VK) (E : XK), Room k B → B.guards = some [] → Env0 P w K mg base B out s H →
    BindsTo s fd ar (ps.zip us) → Vals vs us → sp vs H Q E → codeAny (model P w) B (.call (.ref f) ar) (CR CX0 out P w H s Q E) s
theorem FnG.of {P : Program} {w : World} {K : PySem.W.Frag} {mg : Str → Option Value} {base : Heap} {k : Nat} {f : Addr} {fd : FuncData} {ps : List Str} {sp : Sp} (F : FnOk P w K mg base CX0 k f fd ps sp) : FnG P w K mg base k f fd ps sp :=
  ⟨F.len, fun B out s H ar us vs Q E hr _ e hb hv hs => F.run B out s H ar us vs Q E hr e hb hv hs⟩
/-- a def's body, run where no repr runs -/
theorem Fun.okG {P : Program} {w : World} {K : PySem.W.Frag} {mg : Str → Option Value} {base : Heap} {x qual : Str} {st : Stmt} {f : Addr} {fd : FuncData} {N ps : List Str} {k : Nat} {sp : Sp} (F : Fun K x qual st f fd) (S : FnScope N ps (defScope st))
    (len : ∀ vs H Q E, sp vs H Q E → vs.length = ps.length)
    (body : ∀ (cdv : Value) (B : Around) (out : List Env) (s : Shared) (H : Hp) (vs : List V) (Q : VK) (E : XK), Room k (B.deeper (envOfC qual (defScope st) s.heap.objs.size f cdv)) →
      (B.deeper (envOfC qual (defScope st) s.heap.objs.size f cdv)).guards = some [] → sp vs H Q E →
      WL (cxOf CX0 P w K mg base N qual (defScope st) f cdv B out s H E).nox (defBody st) { nx := fun _ H' => Q .non H', rt := Q } (start N vs) H) : FnG P w K mg base (k + 1) f fd ps sp := by
  obtain ⟨oc, od, kV, doc, pm, an, cdv, ct, osl, rfl, lk, hcd⟩ := F.ex
  constructor
  · exact len
  · intro B out s H ar us vs Q E hr hG e hb hv hs
    have nv : vs.length = ps.length := len _ _ _ _ hs
    have inK : K.In s.heap := e.mod.kin.keeps fun b o z => (e.bs b o z).1
    have free : s.heap.NoLimit := e.mod.nolimit.keeps fun b o z => (e.bs b o z).1
    refine codeAny_call_function hr.depth (inK _ _ lk) rfl S.co S.gen rfl (PySem.W.codeRec_of inK hcd) (hb _ _ _ _ ?_)
    refine wpAny_newFunctionEnv_cells S.kind (fun y hy => ?_) fun env he s1 z => ?_
    · rcases S.par y.1 (List.of_mem_zip (a := y.1) (b := y.2) hy).1 with q | q
      · exact Or.inl q
      · exact Or.inr ⟨q, PySem.W.cellsFrom_some _ _ _ (Or.inl q)⟩
    · subst he
      refine ⟨free.keeps z.toInCall.keep, codeAny_func ?_⟩
      have hq := body cdv B out s H vs Q E (hr.deeper _) hG hs
      have I : Inv (cxOf CX0 P w K mg base N qual (defScope st) f cdv B out s H E) [] (start N vs) H s1 := inv_start S hr.hd e nv hv z
      have run := (pL (X := (cxOf CX0 P w K mg base N qual (defScope st) f cdv B out s H E).nox)).nox.run [] s1 (start N vs) H _ I hq
      refine wpAny_mono run (fun fl s' q => ?_) fun _ _ q => q
      cases fl with
      | brk => obtain ⟨_, _, _, q⟩ := q; exact q.elim
      | cont => obtain ⟨_, _, _, q⟩ := q; exact q.elim
      | next => obtain ⟨σ', H', J, q⟩ := q; exact ⟨V.non, H', J.os, J.bare, J.base, J.hok, rfl, q⟩
      | ret u => obtain ⟨v, σ', H', J, rv, q⟩ := q; exact ⟨v, H', J.os, J.bare, J.base, J.hok, rv, q⟩
theorem Fun.okW {P : Program} {w : World} {K : PySem.W.Frag} {mg : Str → Option Value} {base : Heap} {x qual : Str} {st : Stmt} {f : Addr} {fd : FuncData} {N ps : List Str} {k : Nat} {sp : Sp} (F : Fun K x qual st f fd) (S : FnScope N ps (defScope st))
    (len : ∀ vs H Q E, sp vs H Q E → vs.length = ps.length)
    (body : ∀ (cdv : Value) (B : Around) (out : List Env) (s : Shared) (H : Hp) (vs : List V) (Q : VK) (E : XK), Room k (B.deeper (envOfC qual (defScope st) s.heap.objs.size f cdv)) → sp vs H Q E →
      WL (cxOf CX0 P w K mg base N qual (defScope st) f cdv B out s H E).nox (defBody st) { nx := fun _ H' => Q .non H', rt := Q } (start N vs) H) : FnOk P w K mg base CX0 (k + 1) f fd ps sp :=
  F.ok S len fun cdv A outer s H vs Q E hr h => ⟨_, pL, body cdv A outer s H vs Q E hr h⟩
/-- all of a def, by its name -/
structure CalN (P : Program) (w : World) (K : PySem.W.Frag) (mg : Str → Option Value) (base : Heap) (k : Nat) (x : Str) (sp : Sp) : Prop where
  ex : ∃ (f : Addr) (fd : FuncData) (ps : List Str), FnOk P w K mg base CX0 k f fd ps sp ∧ mg x = some (.ref f) ∧ PySem.W.keepIn K (.ref f) = true ∧ Binds K fd ps []
/-- all of a def that may ask for a repr, by its name -/
structure CalG (P : Program) (w : World) (K : PySem.W.Frag) (mg : Str → Option Value) (base : Heap) (k : Nat) (x : Str) (sp : Sp) : Prop where
  ex : ∃ (f : Addr) (fd : FuncData) (ps : List Str), FnG P w K mg base k f fd ps sp ∧ mg x = some (.ref f) ∧ PySem.W.keepIn K (.ref f) = true ∧ Binds K fd ps []
section
variable {X : Cx} {e : Expr} {es : List Expr} {σ : L2.St} {H : Hp} {Q : VK} {pos p : Pos} {x : Str} {k j : Nat} {sp : Sp}
theorem e_c (c : CalN X.prog X.w X.K X.mg X.base k x sp) (hr : Room j X.A) (hk : k ≤ j) (h : WA X (e :: es) σ H fun vs H1 => sp (vs ++ []) H1 Q E0) (hg : Gl X x := by rfl)
    (hdb : (x == ("__debug__" : Str)) = false := by decide) (he : starEach (e :: es) X.env = (false, eval e X.env) :: starEach es X.env := by rfl) (hpl : (backTo pos (starEach es X.env)).any (·.1) = false := by rfl) :
    WE X (.Call (.Name x p) (e :: es) [] pos) σ H Q := by
  obtain ⟨f, fd, ps, F, hm, kp, hb⟩ := c.ex
  exact toE (pe_call F (hr.mono hk) hg hm kp hb .nil pass0 pA hdb he hpl) h
theorem e_cG (c : CalG X.prog X.w X.K X.mg X.base k x sp) (hr : Room j X.A) (hG : X.A.guards = some []) (hk : k ≤ j) (h : WA X (e :: es) σ H fun vs H1 => sp vs H1 Q E0) (hg : Gl X x := by rfl)
    (hdb : (x == ("__debug__" : Str)) = false := by decide) (he : starEach (e :: es) X.env = (false, eval e X.env) :: starEach es X.env := by rfl) (hpl : (backTo pos (starEach es X.env)).any (·.1) = false := by rfl) :
    WE X (.Call (.Name x p) (e :: es) [] pos) σ H Q := by
  obtain ⟨f, fd, ps, F, hm, kp, hb⟩ := c.ex
  constructor
  intro pins s I
  refine wpAny_Call_Name_kw (ld_glob I hg hm ?_ hdb)
  refine PySem.W.callWith_K (h₀ := X.base) I.ok.mod.kin kp (thn (h.go pos pins s I) fun us s1 ⟨vs, H1, I1, r, q⟩ => ⟨I1.kIn, ?_⟩) he hpl
  have nl : (us ++ []).length = ps.length := by rw [List.append_nil, ← r.length]; exact F.len _ _ _ _ q
  refine wpAny_call (codeAny_mono (F.go X.A X.stack s1 H1 ⟨us, []⟩ us vs Q E0 (hr.mono hk) hG I1.env0 (by simpa using hb s1 us I1.kIn nl) r q) fun r' s' z => ?_)
  cases r' with
  | error _ => exact z.elim
  | ok fl =>
    cases fl with
    | ret u => exact I1.after z
    | next => exact z.elim
    | brk => exact z.elim
    | cont => exact z.elim
end

/-! ### data and its repr -/
theorem Dp.noDict : ∀ (d : PyData) {K : PySem.W.Frag} {H : Hp} {v : V}, Dp K H v d → d.hasDict = false
  | .none, _, _, _, _ => rfl
  | .bool _, _, _, _, _ => rfl
  | .int _, _, _, _, _ => rfl
  | .str _, _, _, _, _ => rfl
  | .list ds, _, _, _, h => by cases h with | lst _ ha => exact noDictAll ds ha
  | .tuple ds, _, _, _, h => by cases h with | tup _ ha => exact noDictAll ds ha
  | .dict _, _, _, _, h => by cases h
where noDictAll : ∀ (ds : List PyData) {K : PySem.W.Frag} {H : Hp} {vs : List V}, DpAll K H vs ds → PyData.hasDictAll ds = false
  | [], _, _, _, _ => rfl
  | d :: ds, _, _, _, h => by
    cases h with
    | cons h1 h2 =>
      show (PyData.hasDict d || PyData.hasDictAll ds) = false
      rw [Dp.noDict d h1, noDictAll ds h2]
      rfl
/-- data at any depth, or a dict of scalars -/
def kD : Key → PyData
  | .inl i => .int i
  | .inr x => .str x
inductive Da (K : PySem.W.Frag) (H : Hp) : V → PyData → Prop
  | dp {v : V} {d : PyData} (h : Dp K H v d) : Da K H v d
  | dct {a : Addr} {kvs : List (Key × V)} {ds : List PyData} (h : H a = some (.dK kvs)) (e : DpAll K H (kvs.map (·.2)) ds) (flat : ∀ d ∈ ds, ∃ x, d = .str x ∨ ∃ i, d = .int i) : Da K H (.ref a) (.dict ((kvs.map fun p => kD p.1).zip ds))
section
variable {X : Cx} {pins : List (Addr × Obj)} {σ : L2.St} {H : Hp} {s : Shared}
theorem call_repr (hG : X.A.guards = some []) (hu : X.A.units + 64 < cLine) : CallR X (.builtin "repr") (fun xs H Q => ∃ x d, xs = [x] ∧ Dp X.K H x d ∧ d.showable = true ∧ d.depth ≤ 60 ∧ d.shown.length ≤ sizeLine ∧ Q (.str d.shown) H) := by
  intro pins s σ H xs us Q I r h
  obtain ⟨x, d, rfl, hd, hs, hp, hz, q⟩ := h
  obtain ⟨u, rfl, rx⟩ := vals1 r
  have nd := Dp.noDict d hd
  obtain ⟨as, rd⟩ := Dp.reads I d x u hd rx
  cases hd with
  | non => cases rx; exact PySem.P.repr_of_none ⟨.str _, H, I.tok _, ⟨_, rfl⟩, q⟩
  | bl b => cases rx; exact PySem.P.repr_of_bool ⟨.str _, H, I.tok _, ⟨_, rfl⟩, q⟩
  | int i =>
    obtain ⟨t, rfl⟩ := rx
    exact PySem.P.repr_of_int (by simpa [PyData.showable] using hs) ⟨.str _, H, I.tok _, ⟨_, rfl⟩, q⟩
  | str z =>
    obtain ⟨t, rfl⟩ := rx
    exact PySem.P.repr_of_str ⟨.str _, H, I.tok _, ⟨_, rfl⟩, q⟩ hz
  | lst _ _ =>
    cases rx
    exact repr_of_reads' rd hs (fun z => by rw [nd] at z; cases z) hG (by omega) (fun _ _ e => e) (fun h' t tk hk => ⟨.str _, H, I.kept hk, ⟨_, rfl⟩, q⟩) hz
  | tup _ _ =>
    cases rx
    exact repr_of_reads' rd hs (fun z => by rw [nd] at z; cases z) hG (by omega) (fun _ _ e => e) (fun h' t tk hk => ⟨.str _, H, I.kept hk, ⟨_, rfl⟩, q⟩) hz
end
end My

namespace My
open PySem PySem.Spec PyProof.Rows L2
section
variable {X : Cx} {σ : L2.St} {H : Hp} {Q : VK} {pos : Pos} {elt tg iter : Expr} {scope : Scope} {x : Str} {j : Nat}
/-- the block of a comprehension, in whatever frame it runs -/
def WB (X : Cx) (scope : Scope) (e : Expr) : TE := fun σ H Q => ∀ (s : Shared) (H0 : Hp) (C : Addr) (cl : List (Str × Addr)) (fp : List Addr), WE (X.blk s H0 scope (compEnvC scope cl C X.env) fp) e σ H Q
def WBT (X : Cx) (scope : Scope) (e : Expr) : TT := fun σ H R => ∀ (s : Shared) (H0 : Hp) (C : Addr) (cl : List (Str × Addr)) (fp : List Addr), WT (X.blk s H0 scope (compEnvC scope cl C X.env) fp) e σ H R
theorem set_wipe (σ : L2.St) (j : Nat) (v : V) : wipe ((wipe σ [j]).set j (some v)) [j] = wipe σ [j] := by
  show ((σ.set j none).set j (some v)).set j none = σ.set j none
  rw [List.set_set, List.set_set]
theorem e_lc {wi : TI} {pt : Pos} (j : Nat) (hi : PI X (.Name x pt) iter wi) (hN : X.N.Nodup) (ok : BlkOk X.N X.env.scope scope [(x, j)])
    (hg : ∀ (s : Shared) (H : Hp) (C : Addr) (cl : List (Str × Addr)) (fp : List Addr), PG (X.blk s H scope (compEnvC scope cl C X.env) fp) (.Name x pt) (gName j))
    (h : tLc wi (gName j) tYes (WB X scope elt) [j] σ H Q) (hc : X.calm = true := by rfl) (hs : ∀ z, foldedSetIterable iter X.env z = pure z := by intro _; rfl) :
    WE X (.ListComp elt [⟨.Name x pt, iter, [], 0⟩] scope pos) σ H Q :=
  toE (pe_lc (own := [(x, j)]) hc hN hi ok hg (fun _ _ _ _ _ => pts_nil) (fun s H0 C cl fp => ⟨fun pins s' σ' H' Q' I q => (q s H0 C cl fp).go pins s' I⟩) hs) h
/-- over a list: Pv by the turn and the heap, D the new list -/
theorem e_lcL {pt : Pos} (j : Nat) (hN : X.N.Nodup) (ok : BlkOk X.N X.env.scope scope [(x, j)])
    (h : WE X iter σ H fun v H1 => ∃ a xs, v = .ref a ∧ SqL X.K H1 a xs ∧ ∀ D, H1 D = none → ∃ Pv : Nat → Hp → Prop, Pv 0 (upd H1 D (.lst [])) ∧ (∀ i H, i ≤ xs.length → Pv i H → SqL X.K H a xs) ∧
      (∀ i y H, xs[i]? = some y → Pv i H → WB X scope elt ((wipe σ [j]).set j (some y)) H fun z H4 => ∃ acc, H4 D = some (.lst acc) ∧ acc.length < sizeLine ∧ Pv (i + 1) (upd H4 D (.lst (acc ++ [z])))) ∧
      ∀ H, Pv xs.length H → Q (.ref D) H)
    (hg : ∀ (s : Shared) (H : Hp) (C : Addr) (cl : List (Str × Addr)) (fp : List Addr), PG (X.blk s H scope (compEnvC scope cl C X.env) fp) (.Name x pt) (gName j))
    (hc : X.calm = true := by rfl) (hs : ∀ z, foldedSetIterable iter X.env z = pure z := by intro _; rfl) :
    WE X (.ListComp elt [⟨.Name x pt, iter, [], 0⟩] scope pos) σ H Q :=
  e_lc j (pi_list pE) hN ok hg (WE.mono h fun v H1 ⟨a, xs, e, hS, k⟩ => ⟨a, e, ⟨xs, hS⟩, fun D nD => by
    obtain ⟨Pv, p0, pl, ps, pd⟩ := k D nD
    exact lc_list (g := gName j) (tt := tYes) (te := WB X scope elt) (vs := [j]) (σ := σ) Pv p0 pl (fun i y H hi p => ⟨set_wipe σ j y, ps i y H hi p⟩) pd⟩) hc hs
theorem e_lcT {pt : Pos} (j : Nat) (hN : X.N.Nodup) (ok : BlkOk X.N X.env.scope scope [(x, j)])
    (h : WE X iter σ H fun v H1 => ∃ a xs, v = .ref a ∧ SqT X.K H1 a xs ∧ ∀ D, H1 D = none → ∃ Pv : Nat → Hp → Prop, Pv 0 (upd H1 D (.lst [])) ∧ (∀ i H, i ≤ xs.length → Pv i H → SqT X.K H a xs) ∧
      (∀ i y H, xs[i]? = some y → Pv i H → WB X scope elt ((wipe σ [j]).set j (some y)) H fun z H4 => ∃ acc, H4 D = some (.lst acc) ∧ acc.length < sizeLine ∧ Pv (i + 1) (upd H4 D (.lst (acc ++ [z])))) ∧
      ∀ H, Pv xs.length H → Q (.ref D) H)
    (hg : ∀ (s : Shared) (H : Hp) (C : Addr) (cl : List (Str × Addr)) (fp : List Addr), PG (X.blk s H scope (compEnvC scope cl C X.env) fp) (.Name x pt) (gName j))
    (hc : X.calm = true := by rfl) (hs : ∀ z, foldedSetIterable iter X.env z = pure z := by intro _; rfl) :
    WE X (.ListComp elt [⟨.Name x pt, iter, [], 0⟩] scope pos) σ H Q :=
  e_lc j (pi_tup pE) hN ok hg (WE.mono h fun v H1 ⟨a, xs, e, hS, k⟩ => ⟨a, e, ⟨xs, hS⟩, fun D nD => by
    obtain ⟨Pv, p0, pl, ps, pd⟩ := k D nD
    exact lc_tup (g := gName j) (tt := tYes) (te := WB X scope elt) (vs := [j]) (σ := σ) Pv p0 pl (fun i y H hi p => ⟨set_wipe σ j y, ps i y H hi p⟩) pd⟩) hc hs
theorem WA.mono {es : List Expr} {U U' : List V → Hp → Prop} (h : WA X es σ H U) (k : ∀ vs H', U vs H' → U' vs H') : WA X es σ H U' := ⟨fun pos pins s I => thn (h.go pos pins s I) fun _ _ ⟨vs, H', I', r, q⟩ => ⟨vs, H', I', r, k vs H' q⟩⟩
/-- over range(n) -/
theorem e_lcR {a : Expr} {p pc pt : Pos} (j : Nat) (hm : X.mg "range" = none) (hN : X.N.Nodup) (ok : BlkOk X.N X.env.scope scope [(x, j)])
    (h : WE X a σ H fun v H1 => ∃ n : Nat, v = .int n ∧ n < 2 ^ 62 ∧ ∀ D, H1 D = none → ∃ Pv : Nat → Hp → Prop, Pv 0 (upd H1 D (.lst [])) ∧
      (∀ i H, i < n → Pv i H → WB X scope elt ((wipe σ [j]).set j (some (.int i))) H fun z H4 => ∃ acc, H4 D = some (.lst acc) ∧ acc.length < sizeLine ∧ Pv (i + 1) (upd H4 D (.lst (acc ++ [z])))) ∧
      ∀ H, Pv n H → Q (.ref D) H)
    (hg : ∀ (s : Shared) (H : Hp) (C : Addr) (cl : List (Str × Addr)) (fp : List Addr), PG (X.blk s H scope (compEnvC scope cl C X.env) fp) (.Name x pt) (gName j))
    (hgl : Gl X "range" := by rfl) (hst : starEach [a] X.env = [(false, eval a X.env)] := by rfl)
    (hc : X.calm = true := by rfl) (hs : ∀ z, foldedSetIterable (.Call (.Name "range" p) [a] [] pc) X.env z = pure z := by intro _; rfl) :
    WE X (.ListComp elt [⟨.Name x pt, .Call (.Name "range" p) [a] [] pc, [], 0⟩] scope pos) σ H Q :=
  e_lc j (pi_range1 hgl hm (pA (es := [a])) hst) hN ok hg (a_cons (WE.mono h fun v H1 ⟨n, e, hn, k⟩ => a_nil ⟨(n : Int), by rw [e], by omega, by omega, fun D nD => by
    obtain ⟨Pv, p0, ps, pd⟩ := k D nD
    have en : ((n : Int)).toNat = n := by omega
    rw [en]
    refine lc_range (g := gName j) (tt := tYes) (te := WB X scope elt) (vs := [j]) (σ := σ) Pv p0 (fun i H hi p => ⟨set_wipe σ j _, ?_⟩) pd
    have e0 : (0 : Int) + (i : Int) = (i : Int) := Int.zero_add _
    rw [e0]
    exact ps i H hi p⟩) (by rw [hst]; rfl)) hc hs
/-- over a text, sign by sign -/
theorem e_lcS {pt : Pos} (j : Nat) (hN : X.N.Nodup) (ok : BlkOk X.N X.env.scope scope [(x, j)])
    (h : WE X iter σ H fun v H1 => ∃ z : Str, v = .str z ∧ ∀ D, H1 D = none → ∃ Pv : Nat → Hp → Prop, Pv 0 (upd H1 D (.lst [])) ∧
      (∀ i c H, z.cps[i]? = some c → Pv i H → WB X scope elt ((wipe σ [j]).set j (some (.str ⟨#[c]⟩))) H fun z H4 => ∃ acc, H4 D = some (.lst acc) ∧ acc.length < sizeLine ∧ Pv (i + 1) (upd H4 D (.lst (acc ++ [z])))) ∧
      ∀ H, Pv z.cps.size H → Q (.ref D) H)
    (hg : ∀ (s : Shared) (H : Hp) (C : Addr) (cl : List (Str × Addr)) (fp : List Addr), PG (X.blk s H scope (compEnvC scope cl C X.env) fp) (.Name x pt) (gName j))
    (hc : X.calm = true := by rfl) (hs : ∀ z, foldedSetIterable iter X.env z = pure z := by intro _; rfl) :
    WE X (.ListComp elt [⟨.Name x pt, iter, [], 0⟩] scope pos) σ H Q :=
  e_lc j (pi_str pE) hN ok hg (WE.mono h fun v H1 ⟨z, e, k⟩ => ⟨z, e, fun D nD => by
    obtain ⟨Pv, p0, ps, pd⟩ := k D nD
    refine ⟨fun i m H => m = z.cps.size - i ∧ i ≤ z.cps.size ∧ Pv i H, ⟨z.cps.size, by simp, Nat.zero_le _, p0⟩, ?_⟩
    rintro i m H ⟨rfl, hi, p⟩
    by_cases hlt : i < z.cps.size
    · refine .inr ⟨hlt, Pv (i + 1), fun H' p' => ⟨z.cps.size - (i + 1), by omega, rfl, hlt, p'⟩, fun y H' hy => ?_⟩
      obtain ⟨rfl, c, hcx, rfl⟩ := hy
      exact ⟨set_wipe σ j _, ps i c _ hcx p⟩
    · have e : i = z.cps.size := by omega
      subst e
      exact .inl ⟨Nat.le_refl _, pd H p⟩⟩) hc hs
end
/-! ### loops -/
section
variable {X : Cx} {σ : L2.St} {H : Hp} {pos : Pos} {tg iter : Expr} {body : List Stmt} {D : Ends} {g : TG}
theorem s_for {wi : TI} (hi : PI X tg iter wi) (hg : PG X tg g) (h : tFor wi g (WL X body) D σ H) (hp : PassesOwn (model X.prog X.w) X.A X.env X.xe) (hc : X.calm = true := by rfl)
    (hs : ∀ x, foldedSetIterable iter X.env x = pure x := by intro _; rfl) : WS X (.For tg iter body [] pos) D σ H := toS (ps_for hp hc hi hg pL hs) h
theorem s_forL (hg : PG X tg g) (h : WE X iter σ H fun v H1 => ∃ a xs, v = .ref a ∧ SqL X.K H1 a xs ∧ ∃ Pv : Nat → L2.St → Hp → Prop, Pv 0 σ H1 ∧ (∀ i σ H, i ≤ xs.length → Pv i σ H → SqL X.K H a xs) ∧
      (∀ i y σ H, xs[i]? = some y → Pv i σ H → g y σ H fun σ2 H2 => WL X body { D with nx := Pv (i + 1), ct := Pv (i + 1), bk := D.nx } σ2 H2) ∧ ∀ σ H, Pv xs.length σ H → D.nx σ H)
    (hp : PassesOwn (model X.prog X.w) X.A X.env X.xe) (hc : X.calm = true := by rfl) (hs : ∀ x, foldedSetIterable iter X.env x = pure x := by intro _; rfl) : WS X (.For tg iter body [] pos) D σ H :=
  s_for (pi_list pE) hg (WE.mono h fun v H1 ⟨a, xs, e, hS, Pv, p0, pl, ps, pd⟩ => ⟨a, e, ⟨xs, hS⟩, for_list Pv p0 pl ps pd⟩) hp hc hs
theorem s_forR {a : Expr} {p pc : Pos} (hm : X.mg "range" = none) (hg : PG X tg g) (h : WE X a σ H fun v H1 => ∃ n : Nat, v = .int n ∧ n < 2 ^ 62 ∧ ∃ Pv : Nat → L2.St → Hp → Prop, Pv 0 σ H1 ∧
      (∀ i σ H, i < n → Pv i σ H → g (.int i) σ H fun σ2 H2 => WL X body { D with nx := Pv (i + 1), ct := Pv (i + 1), bk := D.nx } σ2 H2) ∧ ∀ σ H, Pv n σ H → D.nx σ H)
    (hp : PassesOwn (model X.prog X.w) X.A X.env X.xe) (hgl : Gl X "range" := by rfl) (hst : starEach [a] X.env = [(false, eval a X.env)] := by rfl) (hc : X.calm = true := by rfl)
    (hs : ∀ z, foldedSetIterable (.Call (.Name "range" p) [a] [] pc) X.env z = pure z := by intro _; rfl) : WS X (.For tg (.Call (.Name "range" p) [a] [] pc) body [] pos) D σ H :=
  s_for (pi_range1 hgl hm (pA (es := [a])) hst) hg (a_cons (WE.mono h fun v H1 ⟨n, e, hn, Pv, p0, ps, pd⟩ => a_nil ⟨(n : Int), by rw [e], by omega, by omega, by
    have en : ((n : Int)).toNat = n := by omega
    rw [en]
    refine for_range Pv p0 (fun i σ H hi p => ?_) pd
    have e0 : (0 : Int) + (i : Int) = (i : Int) := Int.zero_add _
    rw [e0]
    exact ps i σ H hi p⟩) (by rw [hst]; rfl)) hp hc hs
end
end My

namespace My
open PySem PySem.Spec PyProof.Rows L2
/-- the call of a law whose def may ask for a repr, from one abstract heap that knows the script at most -/
theorem law_core {P : Program} {w : World} {K : PySem.W.Frag} {mg mb : Str → Option Value} {k : Nat} {fa a : Addr} {fd : FuncData} {x : Str} {sp : Sp} {s₁ : Shared} {vs : List Value} {H : Hp}
    (KX : K.In s₁.heap) (hns : s₁.heap.Ns mainGlobals mg) (hb : s₁.heap.Ns builtinsNs mb) (hbb : ∀ x : Str, x ≠ "__name__" → mb x = bootBuiltins x) (hlim : s₁.heap.NoLimit) (hg : s₁.gens = #[])
    (ha : s₁.heap.get? a = some { cls := .type "list", data := .seq vs.toArray }) (hr : Room k callerA)
    (F : ∀ base : Heap, K.In base → base.Ns mainGlobals mg → FnG P w K mg base k fa fd [x] sp) (bind : ∀ (s : Shared) (u : Value), BindsTo s fd ⟨[u], []⟩ [(x, u)])
    (hO : Only H) (hok : HOk P w H s₁.heap) (at' : ∀ b, H b ≠ none → b = a) (hK : H a ≠ none → K.lookup a = none) (hsp : sp [.ref a] H (fun v _ => v = .bl true) fun _ _ _ => False) :
    codeAny (model P w) callerA (.call (.ref fa) ⟨[.ref a], []⟩) (fun r s' => r = .ok (.ret (.bool true)) ∧ OldK s₁.heap s'.heap ∧ s'.os = s₁.os ∧ AllBare s'.gens) s₁ := by
  have unl : ∀ {b : Addr} {m : Str → Option Value}, s₁.heap.Ns b m → (hidT s₁.heap H).Ns b m := by
    rintro b m ⟨o, es, ep, e, d, r⟩
    refine ⟨o, es, ep, hidT_get e ?_, d, r⟩
    refine Classical.byContradiction fun z => ?_
    have eb := at' b z
    rw [eb, ha] at e
    rw [← Option.some.inj e] at d
    exact Data.noConfusion d
  have inK : K.In (hidT s₁.heap H) := fun b o e => hidT_get (KX b o e) (Classical.byContradiction fun z => by
    have eb := at' b z
    subst eb
    rw [hK z] at e
    cases e)
  have md : Mod K mg (hidT s₁.heap H) := { kin := inK, glob := unl hns, blt := ⟨mb, unl hb, hbb⟩, nolimit := by obtain ⟨mc, h1, h2⟩ := hlim; exact ⟨mc, unl h1, h2⟩ }
  have e0 : Env0 P w K mg (hidT s₁.heap H) callerA [] s₁ H :=
    { frames := rfl, mod := md, bs := fun b o e => of_hidT e, bsz := Nat.le_of_eq (hidT_size _ _), funs := trivial, frf := fun b z => absurd (show b ∈ ([] : List Addr) from z) (by simp), hok := hok, bare := .of_eq hg }
  have run := (F _ inK (unl hns)).go callerA [] s₁ H ⟨[.ref a], []⟩ [.ref a] [.ref a] _ _ hr rfl e0 (bind s₁ (.ref a)) (.cons rfl .nil) hsp
  refine codeAny_mono run fun r s' z => ?_
  match r, z with
  | .error e, z => exact False.elim z
  | .ok .next, z => exact False.elim z
  | .ok .brk, z => exact False.elim z
  | .ok .cont, z => exact False.elim z
  | .ok (.ret u), z =>
    obtain ⟨v, H', h1, h2, h3, h4, h5, h6⟩ := z
    have ev : v = .bl true := h6
    rw [ev] at h5
    have eu : u = Value.bool true := h5
    rw [eu]
    refine ⟨rfl, OldK.of_keep fun b o e => ?_, h1, h2⟩
    rcases hO b with n | ⟨ob, xs, n⟩
    · exact h3.keep b o e n (fun z => by cases z) (fun z => by cases z)
    · obtain ⟨g1, _⟩ := hok b _ n
      obtain ⟨g2, _⟩ := h4 b _ (h3.frzs b ob _ n)
      rw [e] at g1
      rw [Option.some.inj g1]
      exact g2
theorem law_G {P : Program} {w : World} {K : PySem.W.Frag} {mg mb : Str → Option Value} {k : Nat} {fa a : Addr} {fd : FuncData} {x : Str} {sp : Sp} {s₁ : Shared} {vs : List Value} {ns : List Int}
    (KX : K.In s₁.heap) (hns : s₁.heap.Ns mainGlobals mg) (hb : s₁.heap.Ns builtinsNs mb) (hbb : ∀ x : Str, x ≠ "__name__" → mb x = bootBuiltins x) (hlim : s₁.heap.NoLimit) (hg : s₁.gens = #[])
    (ha : s₁.heap.get? a = some { cls := .type "list", data := .seq vs.toArray }) (hi : IntsAre vs ns) (hl : ns.length ≤ sizeLine) (hr : Room k callerA)
    (F : ∀ base : Heap, K.In base → base.Ns mainGlobals mg → FnG P w K mg base k fa fd [x] sp) (bind : ∀ (s : Shared) (u : Value), BindsTo s fd ⟨[u], []⟩ [(x, u)])
    (hsp : ∀ H : Hp, Only H → SqL K H a (ns.map V.int) → sp [.ref a] H (fun v _ => v = .bl true) fun _ _ _ => False) :
    codeAny (model P w) callerA (.call (.ref fa) ⟨[.ref a], []⟩) (fun r s' => r = .ok (.ret (.bool true)) ∧ OldK s₁.heap s'.heap ∧ s'.os = s₁.os ∧ AllBare s'.gens) s₁ := by
  have rv := vals_ints hi
  have nl : vs.length ≤ sizeLine := by rw [hi.length]; exact hl
  cases hk : K.lookup a with
  | some o =>
    have e := KX a o hk
    rw [ha] at e
    have eo := Option.some.inj e
    subst eo
    exact law_core (H := fun _ => none) KX hns hb hbb hlim hg ha hr F bind (fun _ => .inl rfl) (fun b u z => by cases z) (fun b z => absurd rfl z) (fun z => absurd rfl z)
      (hsp _ (fun _ => .inl rfl) (.inr ⟨_, vs.toArray, _, hk, rfl, rfl, rfl, by simpa using nl, by simpa using rv⟩))
  | none =>
    have only : Only (upd (fun _ => none) a (.frz { cls := .type "list", data := .seq vs.toArray } (.lst (ns.map V.int)))) := fun b => by
      by_cases e : b = a
      · exact .inr ⟨_, _, by rw [e, upd_same]⟩
      · exact .inl (upd_ne e)
    refine law_core (H := upd (fun _ => none) a (.frz { cls := .type "list", data := .seq vs.toArray } (.lst (ns.map V.int)))) KX hns hb hbb hlim hg ha hr F bind only (fun b u z => ?_) (fun b z => ?_) (fun _ => hk)
      (hsp _ only (.inl (.inr ⟨_, upd_same⟩)))
    · by_cases e : b = a
      · subst e
        rw [upd_same] at z
        have eu := Option.some.inj z
        subst eu
        exact ⟨ha, by rw [List.length_map]; exact hl, vs, _, rv, ha⟩
      · rw [upd_ne e] at z
        cases z
    · refine Classical.byContradiction fun e => z ?_
      rw [upd_ne e]
theorem walk_G {l : PySem.W.OpenLaw} {n k : Nat} {q : Program} {loose : List Str} {XP : (Str → Option Value) → Heap → Prop} {YP : World → Heap → Prop} {d : DefRec} {K : Params → PySem.W.Frag} {sp : World → Sp} {x : Str}
    (hn : l.most = some n) (hn2 : n ≤ sizeLine) (hdf : d.params.defaults = []) (hr : Room k callerA) (hY : ∀ (w : World) (h : Heap), YP w h → (K w.params).In h)
    (F : ∀ (w : World) (mg : Str → Option Value) (fa : Addr) (h : Heap), (K w.params).In h → h.Ns mainGlobals mg → mg d.name = some (.ref fa) →
      ∃ fd : FuncData, (∀ (s : Shared) (u : Value), BindsTo s fd ⟨[u], []⟩ [(x, u)]) ∧ ∀ base : Heap, (K w.params).In base → base.Ns mainGlobals mg → FnG l.prog w (K w.params) mg base k fa fd [x] (sp w))
    (hsp : ∀ (w : World) (H : Hp) (a : Addr) (ns : List Int), ns.length ≤ n → Only H → SqL (K w.params) H a (ns.map V.int) → sp w [.ref a] H (fun v _ => v = .bl true) fun _ _ _ => False) :
    PySem.W.WalkO q loose XP YP l.row.toRowW d [] (fun f vs => PySem.call f vs) :=
  Att.attach_call hn hdf fun w s₀ s₁ mg mb fa o pm cd doc a vs ns G Y ho hd hcd hmg hobj hints hlen hg => by
    have KX := hY w _ Y
    obtain ⟨fd, bind, f⟩ := F w mg fa _ KX G.T.g hmg
    exact law_G KX G.T.g G.T.b G.T.builtins G.T.nolimit hg hobj hints (Nat.le_trans hlen hn2) hr f bind fun H hO hS => hsp w H a ns hlen hO hS
end My

namespace My
open PySem PySem.Spec PyProof.Rows L2
theorem same_new {H : Hp} {p : Addr} {o : HO} (h : H p = none) : Same H (upd H p o) := fun b x e => by rw [upd_ne (ne_of_none e h)]; exact e
theorem Same.seqT {K : PySem.W.Frag} {H H' : Hp} {a : Addr} {xs : List V} (e : Same H H') (h : SqT K H a xs) : SqT K H' a xs := by
  rcases h with (h | ⟨o, h⟩) | h
  · exact .inl (.inl (e _ _ h))
  · exact .inl (.inr ⟨o, e _ _ h⟩)
  · exact .inr h
/-- a change of what H does not know -/
theorem same_mut {H H' : Hp} {p : Addr} {o : HO} (e : Same H H') (h : H p = none) : Same H (upd H' p o) := fun b x z => by rw [upd_ne (ne_of_none z h)]; exact e b x z
/-- all but the object at p is as it was -/
def But (p : Addr) (H H' : Hp) : Prop := ∀ b o, b ≠ p → H b = some o → H' b = some o
theorem But.refl (p : Addr) (H : Hp) : But p H H := fun _ _ _ e => e
theorem But.trans {p : Addr} {H H1 H2 : Hp} (a : But p H H1) (b : But p H1 H2) : But p H H2 := fun c o n e => b c o n (a c o n e)
theorem But.of {p : Addr} {H H' : Hp} (e : Same H H') : But p H H' := fun b o _ h => e b o h
theorem But.upd {p : Addr} {H : Hp} {o : HO} : But p H (upd H p o) := fun b x n e => by rw [upd_ne n]; exact e
theorem But.free {p a : Addr} {H H' : Hp} (e : But p H H') (n : a ≠ p) (h : H' a = none) : H a = none := by
  cases q : H a with
  | none => rfl
  | some o => rw [e a o n q] at h; cases h
section
variable {X : Cx} {a b c e l : Expr} {es : List Expr} {σ : L2.St} {H : Hp} {Q : VK} {R : Bool → Hp → Prop} {D : Ends} {pos p p2 p3 pc apos : Pos} {x : Str}
/-- e[:h] of a list; of a tuple -/
theorem e_slL {h : Expr} (k : WE X e σ H fun x H1 => WE X h σ H1 fun y H2 => ∃ i a xs, y = .int i ∧ x = .ref a ∧ SqL X.K H2 a xs ∧ ∀ q, H2 q = none → Q (.ref q) (upd H2 q (.lst (cutV xs none (some i))))) :
    WE X (.Subscript e (.Slice none (some h) none p2) pos) σ H Q :=
  toE (pe_slice sl_list pE po_none (po_some pE)) (WE.mono k fun x H1 k1 => WE.mono k1 fun y H2 ⟨i, a, xs, e1, e2, hS, q⟩ => ⟨i, e1, a, xs, e2, hS, q⟩)
theorem e_slT {h : Expr} (k : WE X e σ H fun x H1 => WE X h σ H1 fun y H2 => ∃ i a xs, y = .int i ∧ x = .ref a ∧ SqT X.K H2 a xs ∧ ¬ (HT.sIx xs.length 0 none = 0 ∧ HT.sIx xs.length xs.length (some i) = xs.length) ∧ ∀ q, H2 q = none → Q (.ref q) (upd H2 q (.tup (cutV xs none (some i))))) :
    WE X (.Subscript e (.Slice none (some h) none p2) pos) σ H Q :=
  toE (pe_slice sl_tup pE po_none (po_some pE)) (WE.mono k fun x H1 k1 => WE.mono k1 fun y H2 ⟨i, a, xs, e1, e2, hS, hn, q⟩ => ⟨i, e1, a, xs, e2, hS, hn, q⟩)
/-- ints: a + b, a * b, a % b, a // b -/
theorem e_addI (k : WE X a σ H fun x H1 => WE X b σ H1 fun y H2 => ∃ i j, x = .int i ∧ y = .int j ∧ Q (.int (i + j)) H2) : WE X (.BinOp a .Add b pos) σ H Q := e_op op_add k
theorem e_subI (k : WE X a σ H fun x H1 => WE X b σ H1 fun y H2 => ∃ i j, x = .int i ∧ y = .int j ∧ Q (.int (i - j)) H2) : WE X (.BinOp a .Sub b pos) σ H Q := e_op op_sub k
theorem e_mulI (k : WE X a σ H fun x H1 => WE X b σ H1 fun y H2 => ∃ i j, x = .int i ∧ y = .int j ∧ CMul i j ∧ Q (.int (i * j)) H2) : WE X (.BinOp a .Mult b pos) σ H Q := e_op op_mul k
theorem e_modI (k : WE X a σ H fun x H1 => WE X b σ H1 fun y H2 => ∃ i j, x = .int i ∧ y = .int j ∧ 0 < j ∧ Q (.int (i % j)) H2) : WE X (.BinOp a .Mod b pos) σ H Q := e_op op_mod k
theorem e_divI (k : WE X a σ H fun x H1 => WE X b σ H1 fun y H2 => ∃ i j, x = .int i ∧ y = .int j ∧ CDiv i j ∧ Q (.int (i / j)) H2) : WE X (.BinOp a .FloorDiv b pos) σ H Q := e_op op_fdiv k
theorem e_addS (k : WE X a σ H fun x H1 => WE X b σ H1 fun y H2 => ∃ i j, x = .str i ∧ y = .str j ∧ i.length + j.length ≤ sizeLine ∧ Q (.str (i ++ j)) H2) : WE X (.BinOp a .Add b pos) σ H Q := e_op op_add_str k
theorem e_cat (k : WE X a σ H fun x H1 => WE X b σ H1 fun y H2 => ∃ l m xs zs, x = .ref l ∧ y = .ref m ∧ H2 l = some (.lst xs) ∧ H2 m = some (.lst zs) ∧ xs.length + zs.length ≤ sizeLine ∧ ∀ q, H2 q = none → Q (.ref q) (upd H2 q (.lst (xs ++ zs)))) : WE X (.BinOp a .Add b pos) σ H Q := e_op op_cat k
theorem e_ixL (k : WE X a σ H fun x H1 => WE X b σ H1 fun y H2 => ∃ l xs i v, x = .ref l ∧ y = .int i ∧ SqL X.K H2 l xs ∧ atI xs i = some v ∧ Q v H2) (hs : PlainIx b := by exact fun _ _ => rfl) : WE X (.Subscript a b pos) σ H Q := e_ix ix_list k hs
theorem e_ixT (k : WE X a σ H fun x H1 => WE X b σ H1 fun y H2 => ∃ l xs i v, x = .ref l ∧ y = .int i ∧ SqT X.K H2 l xs ∧ atI xs i = some v ∧ Q v H2) (hs : PlainIx b := by exact fun _ _ => rfl) : WE X (.Subscript a b pos) σ H Q := e_ix ix_tup k hs
theorem mul_sk : OpR X (binaryOp .Mult) (fun x y H Q => ∃ z n, x = .str z ∧ y = .int n ∧ PySem.MulOk z n ∧ Q (.str (Txt.mul z n)) H) := by
  intro pins s σ H x y v u Q I rx ry h
  obtain ⟨z, n, rfl, rfl, hz, q⟩ := h
  obtain ⟨t, rfl⟩ := rx
  obtain ⟨t', rfl⟩ := ry
  exact PySem.SB.mul hz (fun t' k => ⟨.str _, H, I.tok _, ⟨_, rfl⟩, q⟩)
/-- int(e) -/
theorem e_intI (hm : X.mg "int" = none) (k : WE X e σ H fun x H1 => (∃ i, x = .int i ∧ Q (.int i) H1) ∨ ∃ b, x = .bl b ∧ Q (.int (if b then 1 else 0)) H1) (hg : Gl X "int" := by rfl)
    (he : starEach [e] X.env = (false, eval e X.env) :: starEach [] X.env := by rfl) (hpl : (backTo pos (starEach [] X.env)).any (·.1) = false := by rfl) : WE X (.Call (.Name "int" p) [e] [] pos) σ H Q :=
  e_callT call_int1 hm PyProof.Rows.boot_int (a_cons (WE.mono k fun x H1 k1 => a_nil (by
    rcases k1 with ⟨i, rfl, q⟩ | ⟨b, rfl, q⟩
    · exact .inl ⟨i, rfl, q⟩
    · exact .inr ⟨b, rfl, q⟩)) he) hg (by decide) (by decide) he hpl
/-- len(e) -/
theorem e_len (hm : X.mg "len" = none) (k : WE X e σ H fun x H1 => ∃ l xs, x = .ref l ∧ (SqL X.K H1 l xs ∨ SqT X.K H1 l xs) ∧ Q (.int xs.length) H1) (hg : Gl X "len" := by rfl)
    (he : starEach [e] X.env = (false, eval e X.env) :: starEach [] X.env := by rfl) (hpl : (backTo pos (starEach [] X.env)).any (·.1) = false := by rfl) : WE X (.Call (.Name "len" p) [e] [] pos) σ H Q :=
  e_callB call_len_seq hm PySem.boot_len (a_cons (WE.mono k fun x H1 ⟨l, xs, e1, hS, q⟩ => a_nil ⟨l, xs, by rw [e1], hS, q⟩) he) hg (by decide) (by decide) he hpl
theorem e_lenS (hm : X.mg "len" = none) (k : WE X e σ H fun x H1 => ∃ z, x = .str z ∧ z.length ≤ sizeLine ∧ Q (.int z.length) H1) (hg : Gl X "len" := by rfl)
    (he : starEach [e] X.env = (false, eval e X.env) :: starEach [] X.env := by rfl) (hpl : (backTo pos (starEach [] X.env)).any (·.1) = false := by rfl) : WE X (.Call (.Name "len" p) [e] [] pos) σ H Q :=
  e_callB call_len_str hm PySem.boot_len (a_cons (WE.mono k fun x H1 ⟨z, e1, hS, q⟩ => a_nil ⟨z, by rw [e1], hS, q⟩) he) hg (by decide) (by decide) he hpl
/-- isinstance(e, T) -/
theorem e_isi {T : String} (hi : X.mg "isinstance" = none) (hT : X.mg x = none) (bT : bootBuiltins x = some (.type T)) (k : WE X e σ H fun v H1 => ∃ t b, TyX X.K H1 v (.type t) ∧ kitB t T = some b ∧ Q (.bl b) H1)
    (hg : Gl X "isinstance" := by rfl) (hgT : Gl X x := by rfl) (hn : x ≠ "__name__" := by decide) (hd : (x == ("__debug__" : Str)) = false := by decide)
    (he : starEach [e, .Name x p2] X.env = (false, eval e X.env) :: starEach [.Name x p2] X.env := by rfl) (he2 : starEach [.Name x p2] X.env = (false, eval (.Name x p2) X.env) :: starEach [] X.env := by rfl)
    (hpl : (backTo pos (starEach [.Name x p2] X.env)).any (·.1) = false := by rfl) :
    WE X (.Call (.Name "isinstance" p) [e, .Name x p2] [] pos) σ H Q :=
  e_callB call_isi hi PyProof.Rows.boot_isinstance (a_cons (WE.mono k fun v H1 ⟨t, b, ht, hk, q⟩ => a_cons (e_bltn (v := .ty T) hT bT rfl (a_nil ⟨v, .ty T, .type t, .type T, b, rfl, .ty T, ht, kit_ty hk, q⟩) hgT hn hd) he2) he) hg (by decide) (by decide) he hpl
/-- lo <= e <= hi -/
theorem t_btw (k : WE X a σ H fun x H1 => WE X b σ H1 fun y H2 => ∃ i j, x = .int i ∧ y = .int j ∧ (i ≤ j → WE X c σ H2 fun z H3 => ∃ m, z = .int m ∧ R (decide (j ≤ m)) H3) ∧ (¬ i ≤ j → R false H2))
    (hm : lastMarks [.LtE, .LtE] [b, c] = false := by with_unfolding_all rfl) : WT X (.Compare a [.LtE, .LtE] [b, c] pos) σ H R :=
  t_chain op_le op_le (WE.mono k fun x H1 k1 => WE.mono k1 fun y H2 ⟨i, j, e1, e2, h1, h2⟩ => ⟨i, j, e1, e2, decide (i ≤ j), rfl, by
    by_cases hij : i ≤ j
    · rw [decide_eq_true hij, if_pos rfl]
      exact WE.mono (h1 hij) fun z H3 ⟨m, e3, r⟩ => ⟨j, m, e2, e3, _, rfl, r⟩
    · rw [decide_eq_false hij, if_neg Bool.false_ne_true]
      exact ⟨false, rfl, h2 hij⟩⟩) hm
/-- e is None -/
theorem t_isN (k : WE X a σ H fun x H1 => R (decide (x = .non)) H1) {j} : WT X (.Compare a [.Is] [.Constant .none j p] pos) σ H R :=
  t_cmp op_isN (WE.mono k fun x H1 r => e_non ⟨rfl, _, rfl, r⟩) (by first | exact nomark _ | rfl)
/-- comparisons of scalars -/
theorem t_eq (k : WE X a σ H fun x H1 => WE X b σ H1 fun y H2 => scal x y = true ∧ R (decide (x = y)) H2) (hm : behindInMarks .Eq b = false := by first | exact nomark _ | with_unfolding_all rfl) : WT X (.Compare a [.Eq] [b] pos) σ H R :=
  t_cmp op_eq (WE.mono k fun x H1 k1 => WE.mono k1 fun y H2 ⟨h, r⟩ => ⟨h, _, rfl, r⟩) hm
theorem t_ne (k : WE X a σ H fun x H1 => WE X b σ H1 fun y H2 => scal x y = true ∧ R (!decide (x = y)) H2) (hm : behindInMarks .NotEq b = false := by first | exact nomark _ | with_unfolding_all rfl) : WT X (.Compare a [.NotEq] [b] pos) σ H R :=
  t_cmp op_ne (WE.mono k fun x H1 k1 => WE.mono k1 fun y H2 ⟨h, r⟩ => ⟨h, _, rfl, r⟩) hm
theorem t_lt (k : WE X a σ H fun x H1 => WE X b σ H1 fun y H2 => ∃ i j, x = .int i ∧ y = .int j ∧ R (decide (i < j)) H2) (hm : behindInMarks .Lt b = false := by first | exact nomark _ | with_unfolding_all rfl) : WT X (.Compare a [.Lt] [b] pos) σ H R :=
  t_cmp op_lt (WE.mono k fun x H1 k1 => WE.mono k1 fun y H2 ⟨i, j, e1, e2, r⟩ => ⟨i, j, e1, e2, _, rfl, r⟩) hm
theorem t_gt (k : WE X a σ H fun x H1 => WE X b σ H1 fun y H2 => ∃ i j, x = .int i ∧ y = .int j ∧ R (decide (j < i)) H2) (hm : behindInMarks .Gt b = false := by first | exact nomark _ | with_unfolding_all rfl) : WT X (.Compare a [.Gt] [b] pos) σ H R :=
  t_cmp op_gt (WE.mono k fun x H1 k1 => WE.mono k1 fun y H2 ⟨i, j, e1, e2, r⟩ => ⟨i, j, e1, e2, _, rfl, r⟩) hm
theorem t_ge (k : WE X a σ H fun x H1 => WE X b σ H1 fun y H2 => ∃ i j, x = .int i ∧ y = .int j ∧ R (decide (j ≤ i)) H2) (hm : behindInMarks .GtE b = false := by first | exact nomark _ | with_unfolding_all rfl) : WT X (.Compare a [.GtE] [b] pos) σ H R :=
  t_cmp op_ge (WE.mono k fun x H1 k1 => WE.mono k1 fun y H2 ⟨i, j, e1, e2, r⟩ => ⟨i, j, e1, e2, _, rfl, r⟩) hm
/-- l != [] of a list that is data -/
theorem t_neD (hu : X.A.units + 64 < cLine) (k : WE X a σ H fun x H1 => WE X b σ H1 fun y H2 => ∃ d e, Dp X.K H2 x d ∧ Dp X.K H2 y e ∧ SeqAt.shaped d = true ∧ SeqAt.shaped e = true ∧ R (!PyData.eqv d e) H2) (hm : behindInMarks .NotEq b = false := by first | exact nomark _ | with_unfolding_all rfl) :
    WT X (.Compare a [.NotEq] [b] pos) σ H R := t_cmp (op_neD hu) (WE.mono k fun x H1 k1 => WE.mono k1 fun y H2 ⟨d, e, h1, h2, h3, h4, r⟩ => ⟨d, e, h1, h2, h3, h4, _, rfl, r⟩) hm
/-- o[i] = e, a list -/
theorem s_setL (k : WE X e σ H fun v H1 => WE X a σ H1 fun o H2 => WE X b σ H2 fun i H3 => ∃ l xs m j, o = .ref l ∧ i = .int m ∧ H3 l = some (.lst xs) ∧ ixN xs.length m = some j ∧ D.nx σ (upd H3 l (.lst (xs.set j v))))
    (ha : ∀ v, assign (.Subscript a b p) X.env v = (do
      let ov ← holding [v] (eval a X.env)
      let iv ← holding [v, ov] (eval b X.env)
      standAt p
      holding [v, ov, iv] (setItem ov iv v)
      release [v, ov, iv] []) := by intro _; rfl)
    (hs : swapsWithSole [.Subscript a b p] e pos.line X.env = pure false := by rfl) (hw : swappedStores [.Subscript a b p] e X.env = pure none := by rfl)
    (h1 : (assignEach [.Subscript a b p] X.env).map (·.2) = [assign (.Subscript a b p) X.env] := by rfl) : WS X (.Assign [.Subscript a b p] e pos) D σ H :=
  s_asg (pg_sub pE pE set_list ha) (WE.mono k fun v H1 k1 => WE.mono k1 fun o H2 k2 => WE.mono k2 fun i H3 ⟨l, xs, m, j, e1, e2, e3, e4, q⟩ => ⟨l, xs, m, j, e1, e2, e3, e4, q⟩) hs hw h1
end
end My

namespace My
open PySem PySem.Spec PyProof.Rows L2
/-! ### data made of tuples alone -/
mutual
inductive DT (H : Hp) : V → PyData → Prop
  | non : DT H .non .none
  | bl (b : Bool) : DT H (.bl b) (.bool b)
  | int (i : Int) : DT H (.int i) (.int i)
  | str (x : Str) : DT H (.str x) (.str x)
  | tup {a : Addr} {xs : List V} {ds : List PyData} : H a = some (.tup xs) → DTs H xs ds → DT H (.ref a) (.tuple ds)
inductive DTs (H : Hp) : List V → List PyData → Prop
  | nil : DTs H [] []
  | cons {v : V} {vs : List V} {d : PyData} {ds : List PyData} : DT H v d → DTs H vs ds → DTs H (v :: vs) (d :: ds)
end
/-- tuples stay -/
def Tup (H H' : Hp) : Prop := ∀ b xs, H b = some (.tup xs) → H' b = some (.tup xs)
theorem Tup.refl (H : Hp) : Tup H H := fun _ _ e => e
theorem Tup.trans {H H1 H2 : Hp} (a : Tup H H1) (b : Tup H1 H2) : Tup H H2 := fun c xs e => b c xs (a c xs e)
theorem Same.tups {H H' : Hp} (e : Same H H') : Tup H H' := fun b xs h => e b _ h
theorem Tup.new {H : Hp} {p : Addr} {o : HO} (h : H p = none) : Tup H (upd H p o) := Same.tups (same_new h)
theorem Tup.set {H : Hp} {p : Addr} {o : HO} {ys : List V} (h : H p = some (.lst ys)) : Tup H (upd H p o) := fun b xs e => by rw [upd_ne (ne_of e h (fun z => by cases z))]; exact e
theorem But.tups {p : Addr} {H H' : Hp} {ys : List V} (e : But p H H') (h : H p = some (.lst ys)) : Tup H H' := fun b xs z => e b _ (ne_of z h (fun z => by cases z)) z
mutual
theorem DT.mono {H H' : Hp} (e : Tup H H') : ∀ {d : PyData} {v : V}, DT H v d → DT H' v d
  | .none, _, h => by cases h; exact .non
  | .bool b, _, h => by cases h; exact .bl b
  | .int i, _, h => by cases h; exact .int i
  | .str x, _, h => by cases h; exact .str x
  | .list _, _, h => by cases h
  | .dict _, _, h => by cases h
  | .tuple ds, _, h => by cases h with | tup h1 h2 => exact .tup (e _ _ h1) (DTs.mono e h2)
theorem DTs.mono {H H' : Hp} (e : Tup H H') : ∀ {ds : List PyData} {vs : List V}, DTs H vs ds → DTs H' vs ds
  | [], _, h => by cases h; exact .nil
  | d :: ds, _, h => by cases h with | cons h1 h2 => exact .cons (DT.mono e h1) (DTs.mono e h2)
end
mutual
theorem DT.dp {K : PySem.W.Frag} {H : Hp} : ∀ {d : PyData} {v : V}, DT H v d → Dp K H v d
  | .none, _, h => by cases h; exact .non
  | .bool b, _, h => by cases h; exact .bl b
  | .int i, _, h => by cases h; exact .int i
  | .str x, _, h => by cases h; exact .str x
  | .list _, _, h => by cases h
  | .dict _, _, h => by cases h
  | .tuple ds, _, h => by cases h with | tup h1 h2 => exact .tup (.inl (.inl h1)) (DTs.dps h2)
theorem DTs.dps {K : PySem.W.Frag} {H : Hp} : ∀ {ds : List PyData} {vs : List V}, DTs H vs ds → DpAll K H vs ds
  | [], _, h => by cases h; exact .nil
  | d :: ds, _, h => by cases h with | cons h1 h2 => exact .cons (DT.dp h1) (DTs.dps h2)
end
theorem DTs.append {H : Hp} : ∀ {vs ws : List V} {ds es : List PyData}, DTs H vs ds → DTs H ws es → DTs H (vs ++ ws) (ds ++ es)
  | _, _, _, _, .nil, h => h
  | _, _, _, _, .cons h1 h2, h => .cons h1 (DTs.append h2 h)
theorem DTs.snoc {H : Hp} {vs : List V} {ds : List PyData} {v : V} {d : PyData} (h : DTs H vs ds) (k : DT H v d) : DTs H (vs ++ [v]) (ds ++ [d]) := h.append (.cons k .nil)
theorem DTs.length {H : Hp} : ∀ {vs : List V} {ds : List PyData}, DTs H vs ds → vs.length = ds.length
  | _, _, .nil => rfl
  | _, _, .cons _ h => congrArg (· + 1) (DTs.length h)
theorem DTs.get {H : Hp} : ∀ {vs : List V} {ds : List PyData} {i : Nat} {v : V}, DTs H vs ds → vs[i]? = some v → ∃ d, ds[i]? = some d ∧ DT H v d
  | _, _, _, _, .nil, e => by simp at e
  | _, _, 0, _, .cons h1 _, e => by simp at e; subst e; exact ⟨_, rfl, h1⟩
  | _, _, i + 1, _, .cons _ h2, e => by simpa using DTs.get h2 (by simpa using e)
theorem DTs.getD {H : Hp} : ∀ {vs : List V} {ds : List PyData} {i : Nat} {d : PyData}, DTs H vs ds → ds[i]? = some d → ∃ v, vs[i]? = some v ∧ DT H v d
  | _, _, _, _, .nil, e => by simp at e
  | _, _, 0, _, .cons h1 _, e => by simp at e; subst e; exact ⟨_, rfl, h1⟩
  | _, _, i + 1, _, .cons _ h2, e => by simpa using DTs.getD h2 (by simpa using e)
theorem DTs.strs {H : Hp} : ∀ zs : List Str, DTs H (zs.map V.str) (zs.map PyData.str)
  | [] => .nil
  | z :: zs => .cons (.str z) (DTs.strs zs)
theorem DTs.take {H : Hp} : ∀ {vs : List V} {ds : List PyData} (n : Nat), DTs H vs ds → DTs H (vs.take n) (ds.take n)
  | _, _, 0, _ => by simp only [List.take_zero]; exact .nil
  | _, _, _ + 1, .nil => .nil
  | _, _, n + 1, .cons h1 h2 => .cons h1 (DTs.take n h2)
/-- looking into a tuple -/
theorem DT.tupE {H : Hp} {v : V} {ds : List PyData} (h : DT H v (.tuple ds)) : ∃ a xs, v = .ref a ∧ H a = some (.tup xs) ∧ DTs H xs ds := by
  cases h with | tup h1 h2 => exact ⟨_, _, rfl, h1, h2⟩
theorem DT.strE {H : Hp} {v : V} {x : Str} (h : DT H v (.str x)) : v = .str x := by cases h; rfl
theorem DT.nonE {H : Hp} {v : V} (h : DT H v .none) : v = .non := by cases h; rfl
theorem DT.blE {H : Hp} {v : V} {b : Bool} (h : DT H v (.bool b)) : v = .bl b := by cases h; rfl
theorem DTs.e0 {H : Hp} {vs : List V} (h : DTs H vs []) : vs = [] := by cases h; rfl
theorem DTs.e1 {H : Hp} {vs : List V} {d : PyData} {ds : List PyData} (h : DTs H vs (d :: ds)) : ∃ v ws, vs = v :: ws ∧ DT H v d ∧ DTs H ws ds := by cases h with | cons h1 h2 => exact ⟨_, _, rfl, h1, h2⟩
theorem DT.tup2 {H : Hp} {v : V} {d e : PyData} (h : DT H v (.tuple [d, e])) : ∃ a x y, v = .ref a ∧ H a = some (.tup [x, y]) ∧ DT H x d ∧ DT H y e := by
  obtain ⟨a, xs, rfl, h1, h2⟩ := h.tupE
  obtain ⟨x, r, rfl, hx, h2⟩ := h2.e1
  obtain ⟨y, r, rfl, hy, h2⟩ := h2.e1
  cases h2.e0
  exact ⟨a, x, y, rfl, h1, hx, hy⟩
theorem DT.tup3 {H : Hp} {v : V} {d e f : PyData} (h : DT H v (.tuple [d, e, f])) : ∃ a x y z, v = .ref a ∧ H a = some (.tup [x, y, z]) ∧ DT H x d ∧ DT H y e ∧ DT H z f := by
  obtain ⟨a, xs, rfl, h1, h2⟩ := h.tupE
  obtain ⟨x, r, rfl, hx, h2⟩ := h2.e1
  obtain ⟨y, r, rfl, hy, h2⟩ := h2.e1
  obtain ⟨z, r, rfl, hz, h2⟩ := h2.e1
  cases h2.e0
  exact ⟨a, x, y, z, rfl, h1, hx, hy, hz⟩
theorem DT.tup4 {H : Hp} {v : V} {d e f g : PyData} (h : DT H v (.tuple [d, e, f, g])) : ∃ a x y z w, v = .ref a ∧ H a = some (.tup [x, y, z, w]) ∧ DT H x d ∧ DT H y e ∧ DT H z f ∧ DT H w g := by
  obtain ⟨a, xs, rfl, h1, h2⟩ := h.tupE
  obtain ⟨x, r, rfl, hx, h2⟩ := h2.e1
  obtain ⟨y, r, rfl, hy, h2⟩ := h2.e1
  obtain ⟨z, r, rfl, hz, h2⟩ := h2.e1
  obtain ⟨w, r, rfl, hw, h2⟩ := h2.e1
  cases h2.e0
  exact ⟨a, x, y, z, w, rfl, h1, hx, hy, hz, hw⟩
/-! ### sizes -/
mutual
def szD : PyData → Nat
  | .str x => 10 * x.length + 5
  | .tuple ds => szDs ds + 5
  | .none | .bool _ | .int _ | .list _ | .dict _ => 5
def szDs : List PyData → Nat
  | [] => 0
  | d :: ds => szD d + 2 + szDs ds
end
/-! no ints, lists, dicts; the texts have small signs -/
mutual
def okD : PyData → Bool
  | .str x => x.cps.toList.all fun c => decide (c < 128)
  | .tuple ds => okDs ds
  | .none | .bool _ => true
  | .int _ | .list _ | .dict _ => false
def okDs : List PyData → Bool
  | [] => true
  | d :: ds => okD d && okDs ds
end
mutual
theorem shown_le : ∀ d : PyData, okD d = true → d.shown.length ≤ szD d
  | .none, _ => by decide
  | .bool true, _ => by decide
  | .bool false, _ => by decide
  | .str x, h => by
    show (reprText x).length ≤ 10 * x.length + 5
    have := StrLaws.reprText_len x (fun c hc => Nat.lt_of_lt_of_le (of_decide_eq_true (List.all_eq_true.mp h c hc)) (by decide))
    omega
  | .tuple ds, h => by
    show (tupleText (PyData.shownAll ds)).length ≤ szDs ds + 5
    have h1 := tupleText_len_le (PyData.shownAll ds)
    have h2 := shownAll_le ds h
    omega
  | .int _, h => by cases h
  | .list _, h => by cases h
  | .dict _, h => by cases h
theorem shownAll_le : ∀ ds : List PyData, okDs ds = true → ((PyData.shownAll ds).map (·.length)).sum + 2 * (PyData.shownAll ds).length ≤ szDs ds
  | [], _ => by decide
  | d :: ds, h => by
    have h' : (okD d && okDs ds) = true := h
    simp only [Bool.and_eq_true] at h'
    have h1 := shown_le d h'.1
    have h2 := shownAll_le ds h'.2
    show (((PyData.shown d) :: PyData.shownAll ds).map (·.length)).sum + 2 * ((PyData.shown d) :: PyData.shownAll ds).length ≤ szD d + 2 + szDs ds
    rw [List.map_cons, List.sum_cons, List.length_cons]
    omega
end
mutual
theorem showable_ok : ∀ d : PyData, okD d = true → d.showable = true
  | .none, _ => rfl
  | .bool _, _ => rfl
  | .str _, _ => rfl
  | .tuple ds, h => showables_ok ds h
  | .int _, h => by cases h
  | .list _, h => by cases h
  | .dict _, h => by cases h
theorem showables_ok : ∀ ds : List PyData, okDs ds = true → PyData.showableAll ds = true
  | [], _ => rfl
  | d :: ds, h => by
    have h' : (okD d && okDs ds) = true := h
    simp only [Bool.and_eq_true] at h'
    show (PyData.showable d && PyData.showableAll ds) = true
    rw [showable_ok d h'.1, showables_ok ds h'.2]
    rfl
end
theorem okDs_of {ds : List PyData} (h : ∀ d ∈ ds, okD d = true) : okDs ds = true := by
  induction ds with
  | nil => rfl
  | cons d ds ih => show (okD d && okDs ds) = true; rw [h d List.mem_cons_self, ih fun x hx => h x (List.mem_cons_of_mem _ hx)]; rfl
theorem szDs_of {ds : List PyData} {n : Nat} (h : ∀ d ∈ ds, szD d ≤ n) : szDs ds ≤ ds.length * (n + 2) := by
  induction ds with
  | nil => exact Nat.zero_le _
  | cons d ds ih =>
    have h1 := h d List.mem_cons_self
    have h2 := ih fun x hx => h x (List.mem_cons_of_mem _ hx)
    show szD d + 2 + szDs ds ≤ (ds.length + 1) * (n + 2)
    rw [Nat.add_mul]
    omega
theorem depth_of {ds : List PyData} {n : Nat} (h : ∀ d ∈ ds, d.depth ≤ n) : PyData.depthAll ds ≤ n := by
  induction ds with
  | nil => exact Nat.zero_le _
  | cons d ds ih =>
    show max (PyData.depth d) (PyData.depthAll ds) ≤ n
    exact Nat.max_le.mpr ⟨h d List.mem_cons_self, ih fun x hx => h x (List.mem_cons_of_mem _ hx)⟩
theorem str_ext {x y : Str} (h : x.cps.toList = y.cps.toList) : x = y := by
  obtain ⟨a⟩ := x
  obtain ⟨b⟩ := y
  have e : a = b := Array.toList_inj.mp h
  rw [e]
theorem str_cat (x y : Str) : (x ++ y).cps.toList = x.cps.toList ++ y.cps.toList := Array.toList_append
theorem str_assoc (x y z : Str) : x ++ y ++ z = x ++ (y ++ z) := str_ext (by rw [str_cat, str_cat, str_cat, str_cat, List.append_assoc])
end My

namespace My
open PySem PySem.Spec PyProof.Rows L2
/-! ### data of any kind at addresses of which none is among S (the things that are still written to) -/
mutual
inductive DG (S : Addr → Prop) (H : Hp) : V → PyData → Prop
  | non : DG S H .non .none
  | bl (b : Bool) : DG S H (.bl b) (.bool b)
  | int (i : Int) : DG S H (.int i) (.int i)
  | str (x : Str) : DG S H (.str x) (.str x)
  | tup {a : Addr} {xs : List V} {ds : List PyData} (h : H a = some (.tup xs)) (hs : DGs S H xs ds) : DG S H (.ref a) (.tuple ds)
  | lst {a : Addr} {xs : List V} {ds : List PyData} (h : H a = some (.lst xs)) (n : ¬ S a) (hs : DGs S H xs ds) : DG S H (.ref a) (.list ds)
  | dct {a : Addr} {kvs : List (Key × V)} {ds : List PyData} (h : H a = some (.dK kvs)) (n : ¬ S a) (hs : DGs S H (kvs.map (·.2)) ds) : DG S H (.ref a) (.dict ((kvs.map fun p => kD p.1).zip ds))
inductive DGs (S : Addr → Prop) (H : Hp) : List V → List PyData → Prop
  | nil : DGs S H [] []
  | cons {v : V} {vs : List V} {d : PyData} {ds : List PyData} (h : DG S H v d) (hs : DGs S H vs ds) : DGs S H (v :: vs) (d :: ds)
end
/-- all but what is among S is as it was -/
def Not (S : Addr → Prop) (H H' : Hp) : Prop := ∀ a o, ¬ S a → H a = some o → H' a = some o
mutual
theorem DG.mono {S T : Addr → Prop} {H H' : Hp} (ht : Tup H H') (k : ∀ a o, ¬ S a → H a = some o → ¬ T a ∧ H' a = some o) : ∀ {v : V} {d : PyData}, DG S H v d → DG T H' v d
  | _, _, .non => .non
  | _, _, .bl b => .bl b
  | _, _, .int i => .int i
  | _, _, .str x => .str x
  | _, _, .tup h hs => .tup (ht _ _ h) (DGs.mono ht k hs)
  | _, _, .lst h n hs => .lst (k _ _ n h).2 (k _ _ n h).1 (DGs.mono ht k hs)
  | _, _, .dct h n hs => .dct (k _ _ n h).2 (k _ _ n h).1 (DGs.mono ht k hs)
theorem DGs.mono {S T : Addr → Prop} {H H' : Hp} (ht : Tup H H') (k : ∀ a o, ¬ S a → H a = some o → ¬ T a ∧ H' a = some o) : ∀ {vs : List V} {ds : List PyData}, DGs S H vs ds → DGs T H' vs ds
  | _, _, .nil => .nil
  | _, _, .cons h hs => .cons (DG.mono ht k h) (DGs.mono ht k hs)
end
theorem DGs.length {S : Addr → Prop} {H : Hp} : ∀ {vs : List V} {ds : List PyData}, DGs S H vs ds → vs.length = ds.length
  | _, _, .nil => rfl
  | _, _, .cons _ hs => congrArg (· + 1) hs.length
theorem DGs.append {S : Addr → Prop} {H : Hp} : ∀ {vs ws : List V} {ds es : List PyData}, DGs S H vs ds → DGs S H ws es → DGs S H (vs ++ ws) (ds ++ es)
  | _, _, _, _, .nil, k => k
  | _, _, _, _, .cons h hs, k => .cons h (hs.append k)
theorem DGs.get {S : Addr → Prop} {H : Hp} : ∀ {vs : List V} {ds : List PyData} {i : Nat} {v : V}, DGs S H vs ds → vs[i]? = some v → ∃ d, ds[i]? = some d ∧ DG S H v d
  | _, _, 0, _, .cons h _, e => ⟨_, rfl, by cases e; exact h⟩
  | _, _, i + 1, _, .cons _ hs, e => by
    obtain ⟨d, e2, h⟩ := hs.get (i := i) (by simpa using e)
    exact ⟨d, by simpa using e2, h⟩
  | _, _, 0, _, .nil, e => by cases e
  | _, _, i + 1, _, .nil, e => by cases e
theorem DGs.strs {S : Addr → Prop} {H : Hp} : ∀ zs : List Str, DGs S H (zs.map V.str) (zs.map PyData.str)
  | [] => .nil
  | z :: zs => .cons (.str z) (DGs.strs zs)
mutual
theorem DG.of {S : Addr → Prop} {H : Hp} : ∀ {v : V} {d : PyData}, DT H v d → DG S H v d
  | _, _, .non => .non
  | _, _, .bl b => .bl b
  | _, _, .int i => .int i
  | _, _, .str x => .str x
  | _, _, .tup h hs => .tup h (DGs.of hs)
theorem DGs.of {S : Addr → Prop} {H : Hp} : ∀ {vs : List V} {ds : List PyData}, DTs H vs ds → DGs S H vs ds
  | _, _, .nil => .nil
  | _, _, .cons h hs => .cons (DG.of h) (DGs.of hs)
end
theorem DG.same {S : Addr → Prop} {H H' : Hp} (e : Same H H') {v : V} {d : PyData} (h : DG S H v d) : DG S H' v d := h.mono (My.Same.tups e) fun a o n q => ⟨n, e a o q⟩
theorem DGs.same {S : Addr → Prop} {H H' : Hp} (e : Same H H') {vs : List V} {ds : List PyData} (h : DGs S H vs ds) : DGs S H' vs ds := h.mono (My.Same.tups e) fun a o n q => ⟨n, e a o q⟩
/-- new addresses are none of the data's -/
theorem DG.new {S : Addr → Prop} {H : Hp} {p : Addr} (hp : H p = none) {v : V} {d : PyData} (h : DG S H v d) : DG (fun a => S a ∨ a = p) H v d :=
  h.mono (fun _ _ e => e) fun a o n e => ⟨fun z => z.elim n (fun z => by rw [z, hp] at e; cases e), e⟩
/-- the built-in type of data -/
def tyD : PyData → String
  | .none => "NoneType"
  | .bool _ => "bool"
  | .int _ => "int"
  | .str _ => "str"
  | .tuple _ => "tuple"
  | .list _ => "list"
  | .dict _ => "dict"
theorem DG.ty {K : PySem.W.Frag} {S : Addr → Prop} {H : Hp} : ∀ {v : V} {d : PyData}, DG S H v d → TyX K H v (.type (tyD d))
  | _, _, .non => .base .non
  | _, _, .bl b => .base (.bl b)
  | _, _, .int i => .base (.int i)
  | _, _, .str x => .base (.str x)
  | _, _, .tup h _ => .base (.tup h)
  | _, _, .lst h _ _ => .base (.lst h)
  | _, _, .dct h _ _ => .base (.dK h)
def isStr : PyData → Bool | .str _ => true | _ => false
def isTup : PyData → Bool | .tuple _ => true | _ => false
def isBoo : PyData → Bool | .bool _ => true | _ => false
theorem kit_str : ∀ d : PyData, kitB (tyD d) "str" = some (isStr d)
  | .none => (by decide +kernel : kitB "NoneType" "str" = some false)
  | .bool _ => (by decide +kernel : kitB "bool" "str" = some false)
  | .int _ => (by decide +kernel : kitB "int" "str" = some false)
  | .str _ => (by decide +kernel : kitB "str" "str" = some true)
  | .tuple _ => (by decide +kernel : kitB "tuple" "str" = some false)
  | .list _ => (by decide +kernel : kitB "list" "str" = some false)
  | .dict _ => (by decide +kernel : kitB "dict" "str" = some false)
theorem kit_tup : ∀ d : PyData, kitB (tyD d) "tuple" = some (isTup d)
  | .none => (by decide +kernel : kitB "NoneType" "tuple" = some false)
  | .bool _ => (by decide +kernel : kitB "bool" "tuple" = some false)
  | .int _ => (by decide +kernel : kitB "int" "tuple" = some false)
  | .str _ => (by decide +kernel : kitB "str" "tuple" = some false)
  | .tuple _ => (by decide +kernel : kitB "tuple" "tuple" = some true)
  | .list _ => (by decide +kernel : kitB "list" "tuple" = some false)
  | .dict _ => (by decide +kernel : kitB "dict" "tuple" = some false)
theorem kit_boo : ∀ d : PyData, kitB (tyD d) "bool" = some (isBoo d)
  | .none => (by decide +kernel : kitB "NoneType" "bool" = some false)
  | .bool _ => (by decide +kernel : kitB "bool" "bool" = some true)
  | .int _ => (by decide +kernel : kitB "int" "bool" = some false)
  | .str _ => (by decide +kernel : kitB "str" "bool" = some false)
  | .tuple _ => (by decide +kernel : kitB "tuple" "bool" = some false)
  | .list _ => (by decide +kernel : kitB "list" "bool" = some false)
  | .dict _ => (by decide +kernel : kitB "dict" "bool" = some false)
/-! ### repr -/
/-- no dict, or a dict of scalars -/
def Flat : PyData → Bool
  | .none | .bool _ | .int _ | .str _ => true
  | .list _ | .tuple _ | .dict _ => false
def Rp (d : PyData) : Prop := d.hasDict = false ∨ ∃ kvs, d = .dict kvs ∧ (kvs.map (·.2)).all Flat = true
mutual
theorem DG.dp {K : PySem.W.Frag} {S : Addr → Prop} {H : Hp} : ∀ {v : V} {d : PyData}, DG S H v d → d.hasDict = false → Dp K H v d
  | _, _, .non, _ => .non
  | _, _, .bl b, _ => .bl b
  | _, _, .int i, _ => .int i
  | _, _, .str x, _ => .str x
  | _, _, .tup h hs, n => .tup (.inl (.inl h)) (DGs.dp hs n)
  | _, _, .lst h _ hs, n => .lst (.inl (.inl h)) (DGs.dp hs n)
  | _, _, .dct h _ hs, n => by cases n
theorem DGs.dp {K : PySem.W.Frag} {S : Addr → Prop} {H : Hp} : ∀ {vs : List V} {ds : List PyData}, DGs S H vs ds → PyData.hasDictAll ds = false → DpAll K H vs ds
  | _, _, .nil, _ => .nil
  | _, _, .cons h hs, n => by
    have n' : (_ || _) = false := n
    rw [Bool.or_eq_false_iff] at n'
    exact .cons (DG.dp h n'.1) (DGs.dp hs n'.2)
end
theorem key_reads {P : Program} {w : World} {h : Heap} (k : Key) (u : Value) (e : (mixKind P w).is k u = true) : Reads h u (kD k) [] := by
  rcases keyIs_shape e with ⟨i, t, rfl, rfl⟩ | ⟨x, t, rfl, rfl⟩
  · exact Reads.int i t
  · exact Reads.str x t
theorem flat_reads {S : Addr → Prop} {H : Hp} {h : Heap} : ∀ {v : V} {d : PyData} {u : Value}, DG S H v d → Flat d = true → RelV v u → Reads h u d []
  | _, _, _, .non, _, r => by cases r; exact Reads.none
  | _, _, _, .bl b, _, r => by cases r; exact Reads.bool b
  | _, _, _, .int i, _, r => by obtain ⟨t, rfl⟩ := r; exact Reads.int i t
  | _, _, _, .str x, _, r => by obtain ⟨t, rfl⟩ := r; exact Reads.str x t
  | _, _, _, .tup _ _, f, _ => by cases f
  | _, _, _, .lst _ _ _, f, _ => by cases f
  | _, _, _, .dct _ _ _, f, _ => by cases f
theorem pairs_read {S : Addr → Prop} {H : Hp} {h : Heap} : ∀ {kvs : List (Key × V)} {ds : List PyData} {us : List (Key × Value)}, KV kvs us → DGs S H (kvs.map (·.2)) ds → ds.all Flat = true → PyProof.V.PairsRead h kD us ((kvs.map fun p => kD p.1).zip ds) []
  | [], _, _, .nil, .nil, _ => .nil
  | (k, v) :: kvs, d :: ds, (k', u) :: us, .cons r t, .cons h1 hs, f => by
    obtain ⟨e, rv⟩ := r
    have e' : k = k' := e
    subst e'
    have f' : (Flat d && ds.all Flat) = true := f
    rw [Bool.and_eq_true] at f'
    exact PyProof.V.PairsRead.cons (as := []) (bs := []) (flat_reads h1 f'.1 rv) (pairs_read t hs f'.2)
section
variable {X : Cx} {pins : List (Addr × Obj)} {σ : L2.St} {H : Hp} {s : Shared} {S : Addr → Prop}
theorem DG.reads (I : Inv X pins σ H s) {v : V} {d : PyData} {u : Value} (h : DG S H v d) (rp : Rp d) (r : RelV v u) : ∃ as, Reads s.heap u d as ∧ (d.hasDict = true → sysModules ∉ as) := by
  rcases rp with n | ⟨kvs, rfl, f⟩
  · obtain ⟨as, q⟩ := Dp.reads I d v u (h.dp n) r
    exact ⟨as, q, fun z => by rw [n] at z; cases z⟩
  · cases h with
    | @dct a kvs ds h n hs =>
      cases r
      obtain ⟨_, hsys, us, hkv, hd⟩ := (show ObjOk X.prog X.w H s.heap a (.dK kvs) from I.hok a _ h)
      have hl : (kvs.map fun p => kD p.1).length = ds.length := by rw [List.length_map, ← hs.length, List.length_map]
      have ef : ((kvs.map fun p => kD p.1).zip ds).map (·.2) = ds := List.map_snd_zip (by omega)
      rw [ef] at f
      refine ⟨_, PyProof.V.reads_dictOf (fun k u e => key_reads k u e) hd (pairs_read hkv hs f), fun _ z => ?_⟩
      have z' := List.mem_singleton.mp z
      rw [z'] at hsys
      simp at hsys
theorem call_reprG (hG : X.A.guards = some []) (hu : X.A.units + 64 < cLine) : CallR X (.builtin "repr") (fun xs H Q => ∃ S x d, xs = [x] ∧ DG S H x d ∧ Rp d ∧ d.showable = true ∧ d.depth ≤ 60 ∧ d.shown.length ≤ sizeLine ∧ Q (.str d.shown) H) := by
  intro pins s σ H xs us Q I r h
  obtain ⟨S, x, d, rfl, hd, rp, hs, hp, hz, q⟩ := h
  obtain ⟨u, rfl, rx⟩ := vals1 r
  obtain ⟨as, rd, sy⟩ := hd.reads I rp rx
  have far : ∀ a, u = .ref a → wpAny (model X.prog X.w) X.A (call (.builtin "repr") [u]) (EP X pins σ Q) X.xe s := fun a e => by
    subst e
    exact repr_of_reads' rd hs sy hG (by omega) (fun _ _ e => e) (fun h' t tk hk => ⟨.str _, H, I.kept hk, ⟨_, rfl⟩, q⟩) hz
  cases hd with
  | non => cases rx; exact PySem.P.repr_of_none ⟨.str _, H, I.tok _, ⟨_, rfl⟩, q⟩
  | bl b => cases rx; exact PySem.P.repr_of_bool ⟨.str _, H, I.tok _, ⟨_, rfl⟩, q⟩
  | int i =>
    obtain ⟨t, rfl⟩ := rx
    exact PySem.P.repr_of_int (by simpa [PyData.showable] using hs) ⟨.str _, H, I.tok _, ⟨_, rfl⟩, q⟩
  | str z =>
    obtain ⟨t, rfl⟩ := rx
    exact PySem.P.repr_of_str ⟨.str _, H, I.tok _, ⟨_, rfl⟩, q⟩ hz
  | tup _ _ => cases rx; exact far _ rfl
  | lst _ _ _ => cases rx; exact far _ rfl
  | dct _ _ _ => cases rx; exact far _ rfl
end
section
variable {X : Cx} {e : Expr} {σ : L2.St} {H : Hp} {Q : VK} {pos p : Pos}
theorem e_reprG (hm : X.mg "repr" = none) (hG : X.A.guards = some []) (hu : X.A.units + 64 < cLine) (h : WE X e σ H fun x H1 => ∃ S d, DG S H1 x d ∧ Rp d ∧ d.showable = true ∧ d.depth ≤ 60 ∧ d.shown.length ≤ sizeLine ∧ Q (.str d.shown) H1) (hg : Gl X "repr" := by rfl)
    (he : starEach [e] X.env = (false, eval e X.env) :: starEach [] X.env := by rfl) (hpl : (backTo pos (starEach [] X.env)).any (·.1) = false := by rfl) : WE X (.Call (.Name "repr" p) [e] [] pos) σ H Q :=
  e_callB (call_reprG hG hu) hm PyProof.Rows.boot_repr (a_cons (WE.mono h fun x H1 ⟨S, d, h1, h2, h3, h4, h5, q⟩ => a_nil ⟨S, x, d, rfl, h1, h2, h3, h4, h5, q⟩) he) hg (by decide) (by decide) he hpl
end
end My

namespace My
open PySem PySem.Spec PyProof.Rows L2
/-! ### displays of constants -/
inductive LitK : List (Option Expr) → List Key → Prop
  | nil : LitK [] []
  | int (i : Int) {j} {p : Pos} {es : List (Option Expr)} {ks : List Key} (r : LitK es ks) : LitK (some (.Constant (.int i) j p) :: es) (.inl i :: ks)
  | str (x : Str) {j} {p : Pos} {es : List (Option Expr)} {ks : List Key} (r : LitK es ks) : LitK (some (.Constant (.str x) j p) :: es) (.inr x :: ks)
mutual
inductive Lit : Expr → PyData → Prop
  | non {j} {p : Pos} : Lit (.Constant .none j p) .none
  | bl (b : Bool) {j} {p : Pos} : Lit (.Constant (.bool b) j p) (.bool b)
  | int (i : Int) {j} {p : Pos} : Lit (.Constant (.int i) j p) (.int i)
  | str (x : Str) {j} {p : Pos} : Lit (.Constant (.str x) j p) (.str x)
  | neg (i : Int) {j} {p q : Pos} : Lit (.UnaryOp .USub (.Constant (.int i) j p) q) (.int (-i))
  | pow (a b : Int) {j j'} {p p' q : Pos} (h : CPow a b) : Lit (.BinOp (.Constant (.int a) j p) .Pow (.Constant (.int b) j' p') q) (.int (a ^ b.toNat))
  | tup {es : List Expr} {k} {p : Pos} {ds : List PyData} (h : Lits es ds) (l : ds.length ≤ sizeLine) : Lit (.Tuple es k p) (.tuple ds)
  | lst {es : List Expr} {p : Pos} {ds : List PyData} (h : Lits es ds) (l : ds.length ≤ sizeLine) : Lit (.List es p) (.list ds)
  | dct0 {p : Pos} : Lit (.Dict [] [] p) (.dict [])
  | dct {keys : List (Option Expr)} {values : List Expr} {p : Pos} {ks : List Key} {ds : List PyData} (h : Lits values ds) (k : LitK keys ks) (n : ks.Nodup) (l : keys.length ≤ 15) (h0 : keys ≠ []) (e : keys.length = values.length) : Lit (.Dict keys values p) (.dict ((ks.map kD).zip ds))
inductive Lits : List Expr → List PyData → Prop
  | nil : Lits [] []
  | cons {e : Expr} {es : List Expr} {d : PyData} {ds : List PyData} (h : Lit e d) (hs : Lits es ds) : Lits (e :: es) (d :: ds)
end
theorem Lit.star {e : Expr} {es : List Expr} {d : PyData} {env : Env} (h : Lit e d) : starEach (e :: es) env = (false, eval e env) :: starEach es env := by
  cases h <;> rfl
theorem Lits.length : ∀ {es : List Expr} {ds : List PyData}, Lits es ds → es.length = ds.length
  | _, _, .nil => rfl
  | _, _, .cons _ hs => congrArg (· + 1) hs.length
theorem LitK.length : ∀ {es : List (Option Expr)} {ks : List Key}, LitK es ks → es.length = ks.length
  | _, _, .nil => rfl
  | _, _, .int _ r => congrArg (· + 1) r.length
  | _, _, .str _ r => congrArg (· + 1) r.length
theorem LitK.all : ∀ {es : List (Option Expr)} {ks : List Key}, LitK es ks → es.all (·.isSome) = true
  | _, _, .nil => rfl
  | _, _, .int _ r => r.all
  | _, _, .str _ r => r.all
def trsOf (X : Cx) : List (Option Expr) → List Expr → List (TE × TE)
  | some k :: ks, v :: vs => (WE X k, WE X v) :: trsOf X ks vs
  | _, _ => []
theorem pps_of {X : Cx} {pos : Pos} : ∀ {keys : List (Option Expr)} {ks : List Key} {values : List Expr}, LitK keys ks → keys.length = values.length → PPs X pos keys values (trsOf X keys values)
  | _, _, [], .nil, _ => pps_nil
  | _, _, v :: vs, .int i r, e => pps_cons pE pE (pps_of r (by simpa using e))
  | _, _, v :: vs, .str i r, e => pps_cons pE pE (pps_of r (by simpa using e))
  | _, _, _ :: _, .nil, e => by cases e
  | _, _, [], .int _ _, e => by cases e
  | _, _, [], .str _ _, e => by cases e
theorem mergeK_new : ∀ (more kvs : List (Key × V)), (more.map (·.1)).Nodup → (∀ p ∈ more, valV kvs p.1 = none) → mergeK kvs more = kvs ++ more
  | [], kvs, _, _ => by show kvs = kvs ++ []; rw [List.append_nil]
  | p :: r, kvs, n, h => by
    have n' := List.nodup_cons.mp n
    have e := putK_new p.2 (h p List.mem_cons_self)
    show mergeK (putK kvs p.1 p.2) r = _
    rw [e, mergeK_new r _ n'.2 fun q hq => ?_]
    · rw [List.append_assoc]; rfl
    · have e2 := valV_snoc p.1 q.1 p.2 kvs (h p List.mem_cons_self)
      have ne : ¬ q.1 = p.1 := fun z => n'.1 (List.mem_map.mpr ⟨q, hq, z⟩)
      rw [e2, if_neg ne]
      exact h q (List.mem_cons_of_mem _ hq)
theorem DG.free {S : Addr → Prop} {H : Hp} {p : Addr} {o : HO} (hp : H p = some (.dK [])) {v : V} {d : PyData} (h : DG (fun a => S a ∨ a = p) H v d) : DG S (upd H p o) v d :=
  h.mono (fun b xs e => by rw [upd_ne (ne_of e hp (fun z => by cases z))]; exact e) fun a o n e => ⟨fun z => n (.inl z), by rw [upd_ne (fun z => n (.inr z))]; exact e⟩
theorem DGs.free {S : Addr → Prop} {H : Hp} {p : Addr} {o : HO} (hp : H p = some (.dK [])) {vs : List V} {ds : List PyData} (h : DGs (fun a => S a ∨ a = p) H vs ds) : DGs S (upd H p o) vs ds :=
  h.mono (fun b xs e => by rw [upd_ne (ne_of e hp (fun z => by cases z))]; exact e) fun a o n e => ⟨fun z => n (.inl z), by rw [upd_ne (fun z => n (.inr z))]; exact e⟩
section
variable {X : Cx}
theorem in_same {S : Addr → Prop} {H H' : Hp} (e : Same H H') (h : ∀ a, S a → H a ≠ none) : ∀ a, S a → H' a ≠ none := fun a s z => by
  cases q : H a with
  | none => exact h a s q
  | some o => rw [e a o q] at z; cases z
mutual
theorem e_lit : ∀ {e : Expr} {d : PyData}, Lit e d → ∀ {S : Addr → Prop} {σ : L2.St} {H : Hp} {Q : VK}, (∀ a, S a → H a ≠ none) → (∀ v H', Same H H' → DG S H' v d → Q v H') → WE X e σ H Q
  | _, _, .non, _, _, _, _, _, q => e_non (q _ _ (Same.refl _) .non)
  | _, _, .bl b, _, _, _, _, _, q => e_bl (q _ _ (Same.refl _) (.bl b))
  | _, _, .int i, _, _, _, _, _, q => e_int (q _ _ (Same.refl _) (.int i))
  | _, _, .str x, _, _, _, _, _, q => e_str (q _ _ (Same.refl _) (.str x))
  | _, _, .neg i, _, _, _, _, _, q => e_un un_neg (e_int ⟨i, rfl, q _ _ (Same.refl _) (.int (-i))⟩)
  | _, _, .pow a b h, _, _, _, _, _, q => e_op op_pow (e_int (e_int ⟨a, b, rfl, rfl, h, q _ _ (Same.refl _) (.int _)⟩))
  | _, _, .tup h l, _, _, _, _, hS, q => e_tup (a_lit h hS fun vs H' s hs => ⟨by rw [hs.length]; exact l, fun p hp => q _ _ (s.trans (same_new hp)) (.tup upd_same (hs.same (same_new hp)))⟩)
  | _, _, .lst h l, S, _, _, _, hS, q => e_lst (a_lit h hS fun vs H' s hs => ⟨by rw [hs.length]; exact l, fun p hp => q _ _ (s.trans (same_new hp)) (.lst upd_same (fun z => in_same s hS p z hp) (hs.same (same_new hp)))⟩)
  | _, _, .dct0, S, _, H, _, hS, q => toE pe_dnewK fun p hp => q _ _ (same_new hp) (DG.dct (kvs := []) (ds := []) upd_same (fun z => hS p z hp) .nil)
  | _, _, .dct (ks := ks) (ds := ds) h k n l h0 e, S, _, H, _, hS, q => toE (pe_disp (pps_of k e) k.all e h0 l) fun p hp => p_lit h k e (S := fun a => S a ∨ a = p) (fun a z => z.elim (fun z w => by
      by_cases ea : a = p
      · exact hS a z (ea ▸ hp)
      · rw [upd_ne ea] at w; exact hS a z w) (fun z w => by rw [z, upd_same] at w; cases w)) fun vs H2 s hs hl => ⟨s _ _ upd_same, ks.zip vs, rfl, by rw [List.length_zip, ← hl, Nat.min_self, ← k.length]; exact l, by
        have ek : ((ks.zip vs).map (·.1)) = ks := List.map_fst_zip (by omega)
        have ev : ((ks.zip vs).map (·.2)) = vs := List.map_snd_zip (by omega)
        rw [mergeK_new _ [] (by rw [ek]; exact n) (fun _ _ => rfl), List.nil_append]
        refine q _ _ (same_mut ((same_new hp).trans s) hp) ?_
        have ed : ((ks.map kD).zip ds) = (((ks.zip vs).map fun p => kD p.1).zip ds) := by
          have : (ks.zip vs).map (fun p => kD p.1) = ((ks.zip vs).map (·.1)).map kD := by rw [List.map_map]; rfl
          rw [this, ek]
        rw [ed]
        refine DG.dct (kvs := ks.zip vs) upd_same (fun z => hS p z hp) ?_
        rw [ev]
        exact hs.free (s _ _ upd_same)⟩
theorem a_lit : ∀ {es : List Expr} {ds : List PyData}, Lits es ds → ∀ {S : Addr → Prop} {σ : L2.St} {H : Hp} {U : List V → Hp → Prop}, (∀ a, S a → H a ≠ none) → (∀ vs H', Same H H' → DGs S H' vs ds → U vs H') → WA X es σ H U
  | _, _, .nil, _, _, _, _, _, q => a_nil (q _ _ (Same.refl _) .nil)
  | _, _, .cons h hs, _, _, _, _, hS, q => a_cons (e_lit h hS fun v H1 s1 h1 => a_lit hs (in_same s1 hS) fun vs H2 s2 h2 => q _ _ (s1.trans s2) (.cons (h1.same s2) h2)) h.star
theorem p_lit : ∀ {values : List Expr} {ds : List PyData}, Lits values ds → ∀ {keys : List (Option Expr)} {ks : List Key}, LitK keys ks → keys.length = values.length → ∀ {S : Addr → Prop} {σ : L2.St} {H : Hp} {Q : List (V × V) → Hp → Prop}, (∀ a, S a → H a ≠ none) →
    (∀ vs H', Same H H' → DGs S H' vs ds → ks.length = vs.length → Q ((ks.zip vs).map fun kv => (kV kv.1, kv.2)) H') → tPairs (trsOf X keys values) σ H Q
  | _, _, .nil, _, _, .nil, _, _, _, _, _, _, q => q [] _ (Same.refl _) .nil rfl
  | _, _, .cons h hs, _, _, .int i r, e, _, _, _, _, hS, q => e_int (e_lit h hS fun v H1 s1 h1 => p_lit hs r (by simpa using e) (in_same s1 hS) fun vs H2 s2 h2 l => q (v :: vs) _ (s1.trans s2) (.cons (h1.same s2) h2) (by simpa using l))
  | _, _, .cons h hs, _, _, .str i r, e, _, _, _, _, hS, q => e_str (e_lit h hS fun v H1 s1 h1 => p_lit hs r (by simpa using e) (in_same s1 hS) fun vs H2 s2 h2 l => q (v :: vs) _ (s1.trans s2) (.cons (h1.same s2) h2) (by simpa using l))
  | _, _, .nil, _, _, .int _ _, e, _, _, _, _, _, _ => by cases e
  | _, _, .nil, _, _, .str _ _, e, _, _, _, _, _, _ => by cases e
  | _, _, .cons _ _, _, _, .nil, e, _, _, _, _, _, _ => by cases e
end
end
end My

namespace My
open PySem PySem.Spec PyProof.Rows L2
/-! ### any data == a text -/
section
open PySem.SeqAt
theorem dict_eq_declines_str (l : Addr) (es : Array DictEntry) (n : Nat) (dd : Option Addr) (sl : Array (Option Value)) (b : Str) (u : Tok) :
    Meets (Builtin.«dict.__eq__» ⟨[.ref l, .str b u], []⟩) (fun _ R s => s.heap.get? l = some { cls := .type "dict", dict := dd, data := .dict es n, slots := sl } ∧ R (.ok (.ret .notImplemented)) s) :=
  .of_wp fun prog w A R s h => by obtain ⟨hp, g, d, tk, os⟩ := s; obtain ⟨hl, h⟩ := h; have f1 := F.sub_str_dict; wp_walk using wpAny_loadPart' hl; exact ⟨_, rfl, h⟩
theorem dict_ne_declines_str (l : Addr) (es : Array DictEntry) (n : Nat) (dd : Option Addr) (sl : Array (Option Value)) (b : Str) (u : Tok) :
    Meets (Builtin.«dict.__ne__» ⟨[.ref l, .str b u], []⟩) (fun _ R s => s.heap.get? l = some { cls := .type "dict", dict := dd, data := .dict es n, slots := sl } ∧ R (.ok (.ret .notImplemented)) s) :=
  .of_wp fun prog w A R s h => by obtain ⟨hp, g, d, tk, os⟩ := s; obtain ⟨hl, h⟩ := h; have f1 := F.sub_str_dict; wp_walk using wpAny_loadPart' hl; exact ⟨_, rfl, h⟩
theorem str_eq_declines_dict (b : Str) (u : Tok) (l : Addr) (c : Value) (es : Array DictEntry) (n : Nat) (dd : Option Addr) (sl : Array (Option Value)) :
    Meets (Builtin.«str.__eq__» ⟨[.str b u, .ref l], []⟩) (fun _ R s => s.heap.get? l = some { cls := c, dict := dd, data := .dict es n, slots := sl } ∧ R (.ok (.ret .notImplemented)) s) :=
  .of_wp fun prog w A R s h => by obtain ⟨hp, g, d, tk, os⟩ := s; obtain ⟨hl, h⟩ := h; wp_walk using wpAny_loadPart' hl, wpAny_load hl; exact ⟨_, rfl, h⟩
theorem str_ne_declines_dict (b : Str) (u : Tok) (l : Addr) (c : Value) (es : Array DictEntry) (n : Nat) (dd : Option Addr) (sl : Array (Option Value)) :
    Meets (Builtin.«str.__ne__» ⟨[.str b u, .ref l], []⟩) (fun _ R s => s.heap.get? l = some { cls := c, dict := dd, data := .dict es n, slots := sl } ∧ R (.ok (.ret .notImplemented)) s) :=
  .of_wp fun prog w A R s h => by obtain ⟨hp, g, d, tk, os⟩ := s; obtain ⟨hl, h⟩ := h; wp_walk using wpAny_loadPart' hl, wpAny_load hl; exact ⟨_, rfl, h⟩
variable {A : Around} {s : Shared}
theorem RcAt_dict_str {l : Addr} {ob : Obj} {es : Array DictEntry} {n : Nat} (b : Str) (u : Tok) (ho : s.heap.get? l = some ob) (hc : ob.cls = .type "dict") (hd : ob.data = .dict es n) (hu : A.units < cLine) : RcAt A s (.ref l) (.str b u) false := fun prog w E Q h => by
  obtain ⟨cls, dd, data, sl⟩ := ob
  simp only at hc hd
  subst hc hd
  exact rc_eq_decline_or (k := false) ⟨_, ho, rfl⟩ (typeIs_str s b u) (by decide) F.sub_str_dict F.slot_dict_eq F.slot_str_eq_refl
    (fun _ hq => call_meets F.slot_dict_eq ⟨_, ho, rfl⟩ F.entry_dict_eq (F.args_dict_eq_2 _ _) (dict_eq_declines_str l es n dd sl b u) ⟨ho, hq⟩)
    (fun _ hq => call_meets F.slot_str_eq_refl (typeIs_str s b u) F.entry_str_eq (F.args_str_eq_2 _ _) (str_eq_declines_dict b u l (.type "dict") es n dd sl) ⟨ho, hq⟩)
    (fun _ hq => wpAny_of_eq (rfl : isSame (.ref l) (.str b u) = pure false) hq) (.inr hu) h
theorem RcNeAt_dict_str {l : Addr} {ob : Obj} {es : Array DictEntry} {n : Nat} (b : Str) (u : Tok) (ho : s.heap.get? l = some ob) (hc : ob.cls = .type "dict") (hd : ob.data = .dict es n) (hu : A.units < cLine) : RcNeAt A s (.ref l) (.str b u) true := fun prog w E Q h => by
  obtain ⟨cls, dd, data, sl⟩ := ob
  simp only at hc hd
  subst hc hd
  exact rc_ne_decline_or (k := false) ⟨_, ho, rfl⟩ (typeIs_str s b u) (by decide) F.sub_str_dict F.slot_dict_ne F.slot_str_ne_refl
    (fun _ hq => call_meets F.slot_dict_ne ⟨_, ho, rfl⟩ F.entry_dict_ne (F.args_dict_ne_2 _ _) (dict_ne_declines_str l es n dd sl b u) ⟨ho, hq⟩)
    (fun _ hq => call_meets F.slot_str_ne_refl (typeIs_str s b u) F.entry_str_ne (F.args_str_ne_2 _ _) (str_ne_declines_dict b u l (.type "dict") es n dd sl) ⟨ho, hq⟩)
    (fun _ hq => wpAny_of_eq (rfl : isSame (.ref l) (.str b u) = pure false) hq) (.inr hu) h
end
def eqS : PyData → Str → Bool | .str y, z => decide (y = z) | _, _ => false
section
variable {X : Cx}
theorem op_eqS (hu : X.A.units + 64 < cLine) : OpR X (compareOp .Eq) (fun x y H Q => ∃ S d z, DG S H x d ∧ y = .str z ∧ Q (.bl (eqS d z)) H) := by
  intro pins s σ H x y v u Q I rx ry h
  obtain ⟨S, d, z, hd, rfl, q⟩ := h
  have sc : scal x (.str z) = true → decide (x = V.str z) = eqS d z → wpAny (model X.prog X.w) X.A (compareOp .Eq v u) (EP X pins σ Q) X.xe s := fun h1 h2 => op_eq pins s σ H x (.str z) v u Q I rx ry ⟨h1, by rw [h2]; exact q⟩
  obtain ⟨t, rfl⟩ := ry
  have fin : PySem.SeqAt.RcAt X.A s v (.str z t) false → eqS d z = false → wpAny (model X.prog X.w) X.A (compareOp .Eq v (.str z t)) (EP X pins σ Q) X.xe s := fun h1 h2 => h1 X.prog X.w X.xe _ ⟨.bl false, H, I, rfl, by rw [← h2]; exact q⟩
  have hu1 : X.A.units < cLine := by omega
  cases hd with
  | non => exact sc rfl (decide_eq_false nofun)
  | bl b => exact sc rfl (decide_eq_false nofun)
  | int i => exact sc rfl (decide_eq_false nofun)
  | str x =>
    refine sc rfl ?_
    apply Bool.eq_iff_iff.mpr
    show _ ↔ decide (x = z) = true
    rw [decide_eq_true_eq, decide_eq_true_eq]
    exact ⟨fun e => by injection e, fun e => by rw [e]⟩
  | tup h _ =>
    cases rx
    obtain ⟨its, rv, ht, _⟩ := I.tuple (.inl (.inl h))
    exact fin (PySem.SeqAt.RcAt.tuple_str z t ht hu1) rfl
  | lst h _ _ =>
    cases rx
    obtain ⟨its, rv, ht, _⟩ := I.list (.inl (.inl h))
    exact fin (PySem.SeqAt.RcAt.list_str z t ht.isList hu1) rfl
  | dct h _ _ =>
    cases rx
    obtain ⟨_, _, us, _, ob, es, ep, ho, hx, hdt, _⟩ := (show ObjOk X.prog X.w H s.heap _ (.dK _) from I.hok _ _ h)
    exact fin (RcAt_dict_str z t ho hx.1 hdt hu1) rfl
theorem op_neS (hu : X.A.units + 64 < cLine) : OpR X (compareOp .NotEq) (fun x y H Q => ∃ S d z, DG S H x d ∧ y = .str z ∧ Q (.bl (!eqS d z)) H) := by
  intro pins s σ H x y v u Q I rx ry h
  obtain ⟨S, d, z, hd, rfl, q⟩ := h
  have sc : scal x (.str z) = true → decide (x = V.str z) = eqS d z → wpAny (model X.prog X.w) X.A (compareOp .NotEq v u) (EP X pins σ Q) X.xe s := fun h1 h2 => op_ne pins s σ H x (.str z) v u Q I rx ry ⟨h1, by rw [h2]; exact q⟩
  obtain ⟨t, rfl⟩ := ry
  have fin : PySem.SeqAt.RcNeAt X.A s v (.str z t) true → eqS d z = false → wpAny (model X.prog X.w) X.A (compareOp .NotEq v (.str z t)) (EP X pins σ Q) X.xe s := fun h1 h2 => h1 X.prog X.w X.xe _ ⟨.bl true, H, I, rfl, by rw [h2] at q; exact q⟩
  have hu1 : X.A.units < cLine := by omega
  cases hd with
  | non => exact sc rfl (decide_eq_false nofun)
  | bl b => exact sc rfl (decide_eq_false nofun)
  | int i => exact sc rfl (decide_eq_false nofun)
  | str x =>
    refine sc rfl ?_
    apply Bool.eq_iff_iff.mpr
    show _ ↔ decide (x = z) = true
    rw [decide_eq_true_eq, decide_eq_true_eq]
    exact ⟨fun e => by injection e, fun e => by rw [e]⟩
  | tup h _ =>
    cases rx
    obtain ⟨its, rv, ht, _⟩ := I.tuple (.inl (.inl h))
    exact fin (PySem.SeqAt.RcNeAt.tuple_str z t ht hu1) rfl
  | lst h _ _ =>
    cases rx
    obtain ⟨its, rv, ht, _⟩ := I.list (.inl (.inl h))
    exact fin (PySem.SeqAt.RcNeAt.list_str z t ht.isList hu1) rfl
  | dct h _ _ =>
    cases rx
    obtain ⟨_, _, us, _, ob, es, ep, ho, hx, hdt, _⟩ := (show ObjOk X.prog X.w H s.heap _ (.dK _) from I.hok _ _ h)
    exact fin (RcNeAt_dict_str z t ho hx.1 hdt hu1) rfl
end
end My

namespace My
open PySem PySem.Spec PyProof.Rows L2
/-! ### repr of data of any depth, with dicts in it -/
theorem keys_shown {h : Heap} (kvs : List (Key × V)) {ds : List PyData} (hl : kvs.length = ds.length) : (((kvs.map fun p => kD p.1).zip ds).map (·.1)) = kvs.map fun p => kD p.1 := List.map_fst_zip (by rw [List.length_map]; omega)
theorem vals_shown (kvs : List (Key × V)) {ds : List PyData} (hl : kvs.length = ds.length) : (((kvs.map fun p => kD p.1).zip ds).map (·.2)) = ds := List.map_snd_zip (by rw [List.length_map]; omega)
theorem readsAll_keys {P : Program} {w : World} {h : Heap} : ∀ {es : List DictEntry} {us : List (Key × Value)}, Pairs (mixKind P w) es us → ReadsAll h (es.map (·.key)) (us.map fun p => kD p.1) []
  | _, _, .nil => .nil
  | _, _, .cons hk hv hp => ReadsAll.cons (as := []) (key_reads _ _ hk) (readsAll_keys hp)
theorem keys_eq : ∀ {kvs : List (Key × V)} {us : List (Key × Value)}, KV kvs us → (us.map fun p => kD p.1) = kvs.map fun p => kD p.1
  | [], _, .nil => rfl
  | (k, v) :: kvs, (k', u) :: us, .cons r t => by
    have e : k = k' := r.1
    rw [List.map_cons, List.map_cons, keys_eq t, e]
theorem vals_of_pairs {P : Program} {w : World} : ∀ {kvs : List (Key × V)} {us : List (Key × Value)} {es : List DictEntry}, KV kvs us → Pairs (mixKind P w) es us → Vals (kvs.map (·.2)) (es.map (·.val))
  | _, _, _, .nil, .nil => .nil
  | _, _, _, .cons r t, .cons hk hv hp => .cons (by show RelV _ (DictEntry.val _); rw [hv]; exact r.2) (vals_of_pairs t hp)
section
variable {X : Cx} {pins : List (Addr × Obj)} {σ : L2.St} {H : Hp} {s : Shared} {S : Addr → Prop}
abbrev Sh (X : Cx) (h : Heap) (d : Nat) (bs : List Addr) (u : Value) (t : Str) : Prop := ReadAtMost h d bs ∧ ReprK X.prog X.w bs h d u t
mutual
theorem DG.shows (I : Inv X pins σ H s) : ∀ {v : V} {d : PyData} {u : Value}, DG S H v d → RelV v u → d.showable = true → d.shown.length ≤ sizeLine → ∃ as bs, Reads s.heap u d as ∧ Sh X s.heap d.depth bs u d.shown
  | _, _, _, .non, r, _, _ => by
    cases r
    exact ⟨_, [], Reads.none, fun _ h => (nomatch h), by simp only [PyData.shown]; exact .of_is ReprIs.none _ _ _⟩
  | _, _, _, .bl b, r, _, _ => by
    cases r
    exact ⟨_, [], Reads.bool b, fun _ h => (nomatch h), by simp only [PyData.shown]; exact .of_is (ReprIs.bool b) _ _ _⟩
  | _, _, _, .int i, r, hs, _ => by
    obtain ⟨t, rfl⟩ := r
    exact ⟨_, [], Reads.int i t, fun _ h => (nomatch h), by simp only [PyData.shown]; exact .of_is (ReprIs.int t (by simpa [PyData.showable] using hs)) _ _ _⟩
  | _, _, _, .str x, r, _, hz => by
    obtain ⟨t, rfl⟩ := r
    exact ⟨_, [], Reads.str x t, fun _ h => (nomatch h), by simp only [PyData.shown]; exact .of_is (ReprIs.str x t (by simpa only [PyData.shown] using hz)) _ _ _⟩
  | _, _, _, .tup (a := a) (ds := ds) h hds, r, hs, hz => by
    cases r
    have hz' : (tupleText (PyData.shownAll ds)).length ≤ sizeLine := by simpa only [PyData.shown] using hz
    obtain ⟨its, rv, ⟨o, ho, hc, n, hd⟩, _⟩ := I.tuple (.inl (.inl h))
    obtain ⟨as, bs, q1, hb, hk⟩ := DGs.shows I hds rv (by simpa [PyData.showable] using hs) fun t ht => Nat.le_trans (tupleText_mem_le ht) hz'
    have rr : Reads s.heap (.ref a) (.tuple ds) _ := .tuple ho hc hd (by simpa using q1)
    have hna : a ∉ bs := not_mem_of_deeper rr (by simp only [PyData.depth]; omega) hb
    refine ⟨_, a :: bs, rr, ReadAtMost.cons rr (by simp only [PyData.depth]; omega) hb, ?_⟩
    simp only [PyData.depth, PyData.shown]
    exact ReprK.tuple ho hc hd hna (by simpa using hk)
  | _, _, _, .lst (a := a) (ds := ds) h _ hds, r, hs, hz => by
    cases r
    have hz' : (listText (PyData.shownAll ds)).length ≤ sizeLine := by simpa only [PyData.shown] using hz
    obtain ⟨its, rv, ⟨o, n, ho, hc, _, hd⟩, _⟩ := I.list (.inl (.inl h))
    obtain ⟨as, bs, q1, hb, hk⟩ := DGs.shows I hds rv (by simpa [PyData.showable] using hs) fun t ht => Nat.le_trans (listText_mem_le ht) hz'
    have rr : Reads s.heap (.ref a) (.list ds) _ := .list ho hc hd (by simpa using q1)
    have hna : a ∉ bs := not_mem_of_deeper rr (by simp only [PyData.depth]; omega) hb
    refine ⟨_, a :: bs, rr, ReadAtMost.cons rr (by simp only [PyData.depth]; omega) hb, ?_⟩
    simp only [PyData.depth, PyData.shown]
    cases its with
    | nil =>
      cases q1
      simp only [PyData.shownAll, listText_nil]
      exact ReprK.listEmpty ho hc hd
    | cons x l => exact ReprK.list ho hc hd hna (by simpa using hk.length_eq) (fun i y e => hk.item i y (by simpa using e))
  | _, _, _, .dct (a := a) (kvs := kvs) (ds := ds) h _ hds, r, hs, hz => by
    cases r
    have hl : kvs.length = ds.length := by have := hds.length; rwa [List.length_map] at this
    obtain ⟨_, hsys, us, hkv, o, es, ep, ho, hx, hdat, _, hp, _⟩ := (show ObjOk X.prog X.w H s.heap a (.dK kvs) from I.hok a _ h)
    have ek := keys_shown (h := s.heap) kvs hl
    have ev := vals_shown kvs hl
    generalize hD : (kvs.map fun p => kD p.1).zip ds = D at hs hz ek ev ⊢
    have hz' : (dictText (PyData.shownKv D)).length ≤ sizeLine := by simpa only [PyData.shown] using hz
    obtain ⟨hs1, hs2⟩ := PyData.showableKv_split D (by simpa [PyData.showable] using hs)
    have k1 : ReadsAll s.heap (es.toList.map (·.key)) (D.map (·.1)) [] := by
      rw [ek, ← keys_eq hkv]
      exact readsAll_keys hp
    obtain ⟨b1, hb1, kk1⟩ := ReprAllK.of_readsAll (prog := X.prog) (w := X.w) k1 hs1 (fun _ hm => (nomatch hm)) (fun t ht => let ⟨p, hp, hl⟩ := PyData.shownKv_key_le D t ht; Nat.le_trans hl (Nat.le_trans (dictText_mem_le hp) hz'))
    obtain ⟨as2, b2, q2, hb2, kk2⟩ := DGs.shows I hds (vals_of_pairs hkv hp) (by rw [← ev]; exact hs2) (fun t ht => by
      rw [← ev] at ht
      obtain ⟨p, hp, hl⟩ := PyData.shownKv_val_le D t ht
      exact Nat.le_trans hl (Nat.le_trans (dictText_mem_le hp) hz'))
    rw [← ev] at q2 hb2 kk2
    have rr : Reads s.heap (.ref a) (.dict D) _ := .dict ho hx.1 hdat k1 q2
    have hb : ReadAtMost s.heap (PyData.depthKv D) (b1 ++ b2) := (hb1.mono (PyData.depthAll_keys_le D)).append (hb2.mono (PyData.depthAll_vals_le D))
    have hna : a ∉ b1 ++ b2 := not_mem_of_deeper rr (by simp only [PyData.depth]; omega) hb
    refine ⟨_, a :: (b1 ++ b2), rr, ReadAtMost.cons rr (by simp only [PyData.depth]; omega) hb, ?_⟩
    simp only [PyData.depth, PyData.shown, PyData.shownKv_eq]
    exact ReprK.dict ho hx.1 hdat hsys hna (ReprEntriesK.of_two es.toList _ _ (kk1.more_le (fun b hb => List.mem_append_left _ hb) (PyData.depthAll_keys_le D)) (kk2.more_le (fun b hb => List.mem_append_right _ hb) (PyData.depthAll_vals_le D)))
theorem DGs.shows (I : Inv X pins σ H s) : ∀ {vs : List V} {ds : List PyData} {us : List Value}, DGs S H vs ds → Vals vs us → PyData.showableAll ds = true → (∀ t ∈ PyData.shownAll ds, t.length ≤ sizeLine) →
    ∃ as bs, ReadsAll s.heap us ds as ∧ ReadAtMost s.heap (PyData.depthAll ds) bs ∧ ReprAllK X.prog X.w bs s.heap (PyData.depthAll ds) us (PyData.shownAll ds)
  | _, _, _, .nil, .nil, _, _ => ⟨_, [], ReadsAll.nil, fun _ h => (nomatch h), by simp only [PyData.shownAll]; exact .nil⟩
  | _, _, _, .cons (d := d) (ds := ds) h hds, .cons r rs, hs, hz => by
    have hs' : d.showable = true ∧ PyData.showableAll ds = true := by simpa [PyData.showableAll] using hs
    obtain ⟨a1, b1, q1, hb1, k1⟩ := DG.shows I h r hs'.1 (hz _ (by simp only [PyData.shownAll]; exact List.mem_cons_self ..))
    obtain ⟨a2, b2, q2, hb2, k2⟩ := DGs.shows I hds rs hs'.2 (fun t ht => hz t (by simp only [PyData.shownAll]; exact List.mem_cons_of_mem _ ht))
    refine ⟨_, b1 ++ b2, ReadsAll.cons q1 q2, (hb1.mono ?_).append (hb2.mono ?_), ?_⟩
    · simp only [PyData.depthAll]; exact Nat.le_max_left _ _
    · simp only [PyData.depthAll]; exact Nat.le_max_right _ _
    · simp only [PyData.depthAll, PyData.shownAll]
      exact .cons ((k1.more fun b hb => List.mem_append_left _ hb).level_le (Nat.le_max_left _ _)) (k2.more_le (fun b hb => List.mem_append_right _ hb) (Nat.le_max_right _ _))
end
/-- repr of any data -/
theorem call_reprA (hG : X.A.guards = some []) (hu : X.A.units + 64 < cLine) : CallR X (.builtin "repr") (fun xs H Q => ∃ S x d, xs = [x] ∧ DG S H x d ∧ d.showable = true ∧ d.depth ≤ 60 ∧ d.shown.length ≤ sizeLine ∧ Q (.str d.shown) H) := by
  intro pins s σ H xs us Q I r h
  obtain ⟨S, x, d, rfl, hd, hs, hp, hz, q⟩ := h
  obtain ⟨u, rfl, rx⟩ := vals1 r
  have fin : ∀ {h' : Heap} {t : Tok} {tk : Nat}, (∀ b o, s.heap.get? b = some o → h'.get? b = some o) → EP X pins σ Q (.str d.shown t) { s with heap := h', toks := tk } := fun {h' t tk} hk => ⟨.str _, H, I.kept hk, ⟨_, rfl⟩, q⟩
  have clear : ∀ b ∈ ([] : List Addr), Clear ([] : List Code) b := fun b z => nomatch z
  cases hd with
  | non => cases rx; exact PySem.P.repr_of_none ⟨.str _, H, I.tok _, ⟨_, rfl⟩, q⟩
  | bl b => cases rx; exact PySem.P.repr_of_bool ⟨.str _, H, I.tok _, ⟨_, rfl⟩, q⟩
  | int i =>
    obtain ⟨t, rfl⟩ := rx
    exact PySem.P.repr_of_int (by simpa [PyData.showable] using hs) ⟨.str _, H, I.tok _, ⟨_, rfl⟩, q⟩
  | str z =>
    obtain ⟨t, rfl⟩ := rx
    exact PySem.P.repr_of_str ⟨.str _, H, I.tok _, ⟨_, rfl⟩, q⟩ hz
  | @tup a xs ds h hds =>
    cases rx
    have hz' : (tupleText (PyData.shownAll ds)).length ≤ sizeLine := by simpa only [PyData.shown] using hz
    obtain ⟨its, rv, ⟨o, ho, hc, n, hd⟩, _⟩ := I.tuple (.inl (.inl h))
    obtain ⟨as, bs, q1, hb, hk⟩ := DGs.shows I hds rv (by simpa [PyData.showable] using hs) fun t ht => Nat.le_trans (tupleText_mem_le ht) hz'
    have rr : Reads s.heap (.ref a) (.tuple ds) _ := .tuple ho hc hd (by simpa using q1)
    have hna : a ∉ bs := not_mem_of_deeper rr (by simp only [PyData.depth]; omega) hb
    have hp' : PyData.depthAll ds + 1 ≤ 60 := hp
    refine call_repr_slot (by omega) ⟨o, ho, hc⟩ F.slot_tuple_repr (call_tuple_reprK (h₀ := s.heap) ho hc hd hna (by simpa using hk) (A := X.A.in1) hG (fun b _ => Clear.nil b) (by show X.A.units + 1 + _ < cLine; omega) (fun _ _ e => e) (fun h' u tk hk2 => ⟨_, _, rfl, ?_⟩) hz')
    exact fin hk2
  | @lst a xs ds h nS hds =>
    cases rx
    have hz' : (listText (PyData.shownAll ds)).length ≤ sizeLine := by simpa only [PyData.shown] using hz
    obtain ⟨its, rv, ⟨o, n, ho, hc, _, hd⟩, _⟩ := I.list (.inl (.inl h))
    obtain ⟨as, bs, q1, hb, hk⟩ := DGs.shows I hds rv (by simpa [PyData.showable] using hs) fun t ht => Nat.le_trans (listText_mem_le ht) hz'
    have rr : Reads s.heap (.ref a) (.list ds) _ := .list ho hc hd (by simpa using q1)
    have hna : a ∉ bs := not_mem_of_deeper rr (by simp only [PyData.depth]; omega) hb
    have hp' : PyData.depthAll ds + 1 ≤ 60 := hp
    cases its with
    | nil =>
      cases q1
      refine call_repr_slot (by omega) ⟨o, ho, hc⟩ F.slot_list_repr.toG (call_list_repr_empty ⟨o, ho, hc⟩ ho hd ⟨_, _, rfl, ?_⟩)
      have e : (PyData.list []).shown = "[]" := by simp only [PyData.shown, PyData.shownAll, listText_nil]
      rw [e] at q
      exact ⟨.str _, H, I.tok _, ⟨_, rfl⟩, q⟩
    | cons x l =>
      refine call_repr_slot (by omega) ⟨o, ho, hc⟩ F.slot_list_repr.toG (call_list_reprK (h₀ := s.heap) ho hc hd hna (by simpa using hk.length_eq) (fun i y e => hk.item i y (by simpa using e)) (A := X.A.in1) hG (fun b _ => Clear.nil b) (by show X.A.units + 1 + _ < cLine; omega) (fun _ _ e => e) (fun h' u tk hk2 => ⟨_, _, rfl, ?_⟩) hz')
      exact fin hk2
  | @dct a kvs ds h nS hds =>
    cases rx
    have hl : kvs.length = ds.length := by have := hds.length; rwa [List.length_map] at this
    obtain ⟨_, hsys, us, hkv, o, es, ep, ho, hx, hdat, _, hpp, _⟩ := (show ObjOk X.prog X.w H s.heap a (.dK kvs) from I.hok a _ h)
    have ek := keys_shown (h := s.heap) kvs hl
    have ev := vals_shown kvs hl
    generalize hD : (kvs.map fun p => kD p.1).zip ds = D at hs hz hp q ek ev fin ⊢
    have hz' : (dictText (PyData.shownKv D)).length ≤ sizeLine := by simpa only [PyData.shown] using hz
    obtain ⟨hs1, hs2⟩ := PyData.showableKv_split D (by simpa [PyData.showable] using hs)
    have k1 : ReadsAll s.heap (es.toList.map (·.key)) (D.map (·.1)) [] := by
      rw [ek, ← keys_eq hkv]
      exact readsAll_keys hpp
    obtain ⟨b1, hb1, kk1⟩ := ReprAllK.of_readsAll (prog := X.prog) (w := X.w) k1 hs1 (fun _ hm => (nomatch hm)) (fun t ht => let ⟨p, hp, hl⟩ := PyData.shownKv_key_le D t ht; Nat.le_trans hl (Nat.le_trans (dictText_mem_le hp) hz'))
    obtain ⟨as2, b2, q2, hb2, kk2⟩ := DGs.shows I hds (vals_of_pairs hkv hpp) (by rw [← ev]; exact hs2) (fun t ht => by
      rw [← ev] at ht
      obtain ⟨p, hp, hl⟩ := PyData.shownKv_val_le D t ht
      exact Nat.le_trans hl (Nat.le_trans (dictText_mem_le hp) hz'))
    rw [← ev] at q2 hb2 kk2
    have rr : Reads s.heap (.ref a) (.dict D) _ := .dict ho hx.1 hdat k1 q2
    have hb : ReadAtMost s.heap (PyData.depthKv D) (b1 ++ b2) := (hb1.mono (PyData.depthAll_keys_le D)).append (hb2.mono (PyData.depthAll_vals_le D))
    have hna : a ∉ b1 ++ b2 := not_mem_of_deeper rr (by simp only [PyData.depth]; omega) hb
    have hp' : PyData.depthKv D + 1 ≤ 60 := hp
    refine call_repr_slot (by omega) ⟨o, ho, hx.1⟩ F.slot_dict_repr (call_dict_reprK (h₀ := s.heap) ho hx.1 hdat hsys hna (ReprEntriesK.of_two es.toList _ _
      (kk1.more_le (fun b hb => List.mem_append_left _ hb) (PyData.depthAll_keys_le D)) (kk2.more_le (fun b hb => List.mem_append_right _ hb) (PyData.depthAll_vals_le D))) (A := X.A.in1) hG (fun b _ => Clear.nil b) (by show X.A.units + 1 + _ < cLine; omega) (fun _ _ e => e) (fun h' u tk hk2 => ⟨_, _, rfl, ?_⟩) (by rw [← PyData.shownKv_eq]; exact hz'))
    have := fin (t := u) (tk := tk) hk2
    simpa only [PyData.shown, PyData.shownKv_eq] using this
end
section
variable {X : Cx} {e : Expr} {σ : L2.St} {H : Hp} {Q : VK} {pos p : Pos}
theorem e_reprA (hm : X.mg "repr" = none) (hG : X.A.guards = some []) (hu : X.A.units + 64 < cLine) (h : WE X e σ H fun x H1 => ∃ S d, DG S H1 x d ∧ d.showable = true ∧ d.depth ≤ 60 ∧ d.shown.length ≤ sizeLine ∧ Q (.str d.shown) H1) (hg : Gl X "repr" := by rfl)
    (he : starEach [e] X.env = (false, eval e X.env) :: starEach [] X.env := by rfl) (hpl : (backTo pos (starEach [] X.env)).any (·.1) = false := by rfl) : WE X (.Call (.Name "repr" p) [e] [] pos) σ H Q :=
  e_callB (call_reprA hG hu) hm PyProof.Rows.boot_repr (a_cons (WE.mono h fun x H1 ⟨S, d, h1, h3, h4, h5, q⟩ => a_nil ⟨S, x, d, rfl, h1, h3, h4, h5, q⟩) he) hg (by decide) (by decide) he hpl
end
end My

namespace My
open PySem PySem.Spec PyProof.Rows L2
/-! ### sorted of a tuple of texts -/
section
variable {P : Program} {w : World} {A : Around} {E : Value → Shared → Prop} {z : Shared} {a : Addr} {us : List Value}
theorem gather_tup {Q : List Value → Shared → Prop} (ht : z.heap.IsTuple a us.toArray) (hn : us.length ≤ sizeLine)
    (k : Q us { z with heap := (z.heap.push (seqObj "list" #[] 0)).update z.heap.objs.size (Obj.mapSeq (· ++ us.toArray)) }) : wpAny (model P w) A (collect (.ref a)) Q E z := by
  obtain ⟨ob, hob, hcl, m, hda⟩ := id ht
  have hob2 : (z.heap.push (seqObj "list" #[] 0)).get? a = some ob := Heap.get?_push_of_some _ hob
  have hnew : (z.heap.push (seqObj "list" #[] 0)).get? z.heap.objs.size = some (seqObj "list" #[] 0) := Heap.get?_push_size _ rfl
  unfold collect
  refine wpAny_bind (wpAny_runValue (codeAny_builtin entry_proto_collect' ?_))
  show wpAny _ _ (do again (.builtin "list.__iadd__" ⟨[← newList [], .ref a], []⟩)) _ _ z
  refine wpAny_bind (wpAny_newList (wpAny_pure ⟨Code.quiet_builtin _ (by decide +kernel), codeAny_builtin entry_list_iadd' ?_⟩))
  show wpAny _ _ (Builtin.List.listExtendWith (.ref z.heap.objs.size) (.ref a) (.ref z.heap.objs.size)) _ _ { z with heap := z.heap.push (seqObj "list" #[] 0) }
  unfold Builtin.List.listExtendWith
  refine wpAny_bind (wpAny_typeOf (T := "tuple") ⟨ob, hob2, hcl⟩ ?_)
  have ett : (Value.type "tuple" == Value.type "tuple") = true := by decide
  rw [if_pos (by rw [ett]; simp)]
  refine wpAny_bind (listItems_at hob2 hda ?_)
  refine wpAny_bind (listItems_at hnew rfl ?_)
  rw [if_neg (by simp)]
  refine wpAny_bind (listUpdate_at hnew rfl ?_ (Nat.zero_le _) (by show (#[] ++ us.toArray).size ≤ sizeLine + 1; rw [Array.size_append, List.size_toArray]; show 0 + us.length ≤ _; omega))
  refine wpAny_pure ?_
  refine wpAny_bind (wpAny_load (get?_update_seq hnew _) ?_)
  show wpAny _ _ (pure ((#[] : Array Value) ++ us.toArray).toList) Q E _
  have e : ((#[] : Array Value) ++ us.toArray).toList = us := by simp
  rw [e]
  exact wpAny_pure k
theorem sorted_tup {xs : List Str} {Q : Value → Shared → Prop} (ht : z.heap.IsTuple a us.toArray) (hs : StrsAre us xs) (h64 : us.length < 64)
    (k : ∀ (out : Array Value) (ys : List Str), StrsAre out.toList ys → ys.Perm xs → sortedS ys = true → Q (.ref (z.heap.objs.size + 1)) { z with heap := sortedAll z.heap us out }) : wpAny (model P w) A (call (.builtin "sorted") [.ref a]) Q E z := by
  refine Calls.call_function_entry kind_sorted plain_sorted entry_sorted (args_sorted1 _) ?_
  unfold Builtin.«sorted»
  refine wpAny_bind (m := checkCount "sorted" 1 1 _) (wpAny_pure ?_)
  refine wpAny_bind (gather_tup ht (Nat.le_trans (Nat.le_of_lt h64) (by decide)) ?_)
  refine wpAny_bind (wpAny_newList ?_)
  have hsz : ((z.heap.push (seqObj "list" #[] 0)).update z.heap.objs.size (Obj.mapSeq (· ++ us.toArray))).objs.size = z.heap.objs.size + 1 := by rw [Heap.size_update, size_push']
  have hL : (((z.heap.push (seqObj "list" #[] 0)).update z.heap.objs.size (Obj.mapSeq (· ++ us.toArray))).push (seqObj "list" us.toArray 0)).get? (z.heap.objs.size + 1) = some (seqObj "list" us.toArray 0) := by rw [← hsz]; exact Heap.get?_push_size _ rfl
  show wpAny _ _ _ _ _ { z with heap := ((z.heap.push (seqObj "list" #[] 0)).update z.heap.objs.size (Obj.mapSeq (· ++ us.toArray))).push (seqObj "list" us.toArray 0) }
  rw [hsz]
  refine wpAny_bind (wpAny_holding (wpAny_call_entry slot_list_sort ⟨_, hL, rfl⟩ entry_list_sort (list_sort_treeK strKind_oneLt hL hs.keysOf (fun v1 v2 r e => keyKind_strs (by rw [← e]; exact hs)) h64 fun st hp hst => ⟨_, rfl, ?_⟩) (args_list_sort _)))
  obtain ⟨ys, h1, h2, h3⟩ := sorted_out_str hs hp hst
  exact wpAny_pure ⟨_, rfl, k _ ys h1 h2 h3⟩
end
section
variable {X : Cx}
theorem cr_sortedTS : CallR X (.builtin "sorted") (fun vs H Q => ∃ (a : Addr) (xs : List Str), vs = [V.ref a] ∧ SqT X.K H a (xs.map V.str) ∧ xs.length < 64 ∧ ∀ (ys : List Str) (p : Addr), ys.Perm xs → sortedS ys = true → H p = none → Q (.ref p) (upd H p (.lst (ys.map V.str)))) := by
  intro pins s σ H vs us Q I r h
  obtain ⟨a, xs, rfl, hs, h64, q⟩ := h
  obtain ⟨its, rv, ht, _⟩ := I.tuple hs
  obtain ⟨u, rfl, ru⟩ := vals1 r
  cases ru
  have hl := rv.length
  rw [List.length_map] at hl
  refine sorted_tup ht rv.strs (by omega) fun out ys h1 h2 h3 => ?_
  obtain ⟨ep, he⟩ := sortedAll_at s.heap its out
  have hlen : (ys.map V.str).length ≤ sizeLine := by rw [List.length_map, h2.length_eq]; exact small64 h64
  exact ⟨.ref _, upd H (s.heap.objs.size + 1) (.lst (ys.map V.str)), I.laid (t' := s.toks) (fun _ _ => sortedAll_old) (Nat.le_succ _) ⟨hlen, out.toList, ep, vals_of_strs h1, he⟩, rfl, q ys _ h2 h3 (I.hok.fresh (Nat.le_succ _))⟩
end
end My

namespace My
open PySem PySem.Spec PyProof.Rows L2
/-! ### len(set(texts)) -/
/-- how many different texts stand among the first i -/
def cnt (xs : List Str) : Nat → Nat
  | 0 => 0
  | i + 1 => if (xs.take i).any (· == xs.getD i Str.empty) then cnt xs i else cnt xs i + 1
theorem cnt_le (xs : List Str) : ∀ i, cnt xs i ≤ i
  | 0 => Nat.le_refl _
  | i + 1 => by
    have := cnt_le xs i
    have e : cnt xs (i + 1) = if (xs.take i).any (· == xs.getD i Str.empty) then cnt xs i else cnt xs i + 1 := rfl
    rw [e]
    split
    · exact Nat.le_succ_of_le this
    · exact Nat.succ_le_succ this
theorem take_one {xs : List Str} {i : Nat} (h : i < xs.length) : xs.take (i + 1) = xs.take i ++ [xs.getD i Str.empty] := by
  have e : xs.getD i Str.empty = xs[i] := by rw [List.getD_eq_getElem?_getD, List.getElem?_eq_getElem h]; rfl
  rw [e, List.take_succ_eq_append_getElem h]
theorem cnt_nodup (xs : List Str) : ∀ i, i ≤ xs.length → (cnt xs i = i ↔ (xs.take i).Nodup)
  | 0, _ => by simp [cnt]
  | i + 1, h => by
    have ih := cnt_nodup xs i (by omega)
    have hle := cnt_le xs i
    have hlt : i < xs.length := by omega
    rw [take_one hlt]
    show ((if (xs.take i).any (· == xs.getD i Str.empty) then cnt xs i else cnt xs i + 1) = i + 1) ↔ _
    rw [List.nodup_append]
    by_cases c : (xs.take i).any (· == xs.getD i Str.empty) = true
    · rw [if_pos c]
      constructor
      · intro e; omega
      · intro ⟨_, _, n⟩
        obtain ⟨y, hy, e⟩ := List.any_eq_true.mp c
        exact absurd (eq_of_beq e) (n y hy _ (List.mem_singleton.mpr rfl))
    · rw [if_neg c]
      constructor
      · intro e
        refine ⟨ih.mp (by omega), by simp, fun y hy z hz e2 => c (List.any_eq_true.mpr ⟨y, hy, ?_⟩)⟩
        rw [List.mem_singleton.mp hz] at e2
        rw [e2]; exact beq_self_eq_true _
      · intro ⟨n, _, _⟩
        rw [ih.mpr n]
section
variable {P : Program} {w : World} {A : Around} {R : Result → Shared → Prop} {I S : Addr} {fp wr : List Addr} {G : Array GenState → Array GenState → Prop} {n : Nat} {Pi : Nat → Value → Prop} {St : Nat → Shared → Prop}
abbrev Holds (P : Program) (w : World) (h : Heap) (S : Addr) (xs : List Str) (i : Nat) : Prop := h.SetOf (PySem.strKind P w) S (fun k => (xs.take i).any (· == k)) (cnt xs i)
theorem Holds.at {h h' : Heap} {xs : List Str} {i : Nat} (x : Holds P w h S xs i) (k : ∀ o, h.get? S = some o → h'.get? S = some o) : Holds P w h' S xs i := by
  obtain ⟨o, es, ep, tb, ho, more⟩ := x
  exact ⟨o, es, ep, tb, k o ho, more⟩
theorem set_turns (W : WalksS P w A.in1 I fp wr G n Pi St) (nS : S ∉ fp) (xs : List Str) (hn : xs.length = n) (h64 : n ≤ 1000) (hv : ∀ i v, Pi i v → ∃ t, v = .str (xs.getD i Str.empty) t) :
    ∀ (m i : Nat) (z : Shared), i + m = n → St i z → Holds P w z.heap S xs i →
      (∀ z', Moved (S :: wr) G z z' → Holds P w z'.heap S xs n → R (.ok (.ret .none)) z') → codeAny (model P w) A (.builtin "set.update.loop" ⟨[.ref S, .ref I], []⟩) R z := by
  have nSw : S ∉ wr := fun h => nS (W.sub _ h)
  have more : ∀ b ∈ wr, b ∈ S :: wr := fun b hb => List.mem_cons_of_mem _ hb
  intro m
  induction m with
  | zero =>
    intro i z hi st hS k
    have ei : i = n := by omega
    subst ei
    refine codeAny_builtin PyProof.Rows.F.entry_set_update_loop ?_
    rw [Around.under_plainId PyProof.Rows.F.plain_set_update_loop _]
    show wpAny _ A.in1 (pyNext (.ref I) >>= _) _ _ z
    refine wpAny_bind (W.done z _ _ st fun z' mv => ?_)
    show wpAny _ A.in1 (ret Value.none) _ _ z'
    exact wpAny_pure (k z' (mv.mono more) (hS.at fun o ho => mv.heap S _ nSw ho))
  | succ m ih =>
    intro i z hi st hS k
    have hlt : i < n := by omega
    refine codeAny_builtin PyProof.Rows.F.entry_set_update_loop ?_
    rw [Around.under_plainId PyProof.Rows.F.plain_set_update_loop _]
    show wpAny _ A.in1 (pyNext (.ref I) >>= _) _ _ z
    refine wpAny_bind (W.item i z _ _ hlt st fun v z' hP st' mv => ?_)
    obtain ⟨t, rfl⟩ := hv i v hP
    have hS' : Holds P w z'.heap S xs i := hS.at fun o ho => mv.heap S _ nSw ho
    show wpAny _ A.in1 (holding [Value.str (xs.getD i Str.empty) t] (setAdd S (.str (xs.getD i Str.empty) t)) >>= _) _ _ z'
    refine wpAny_bind (wpAny_holding ?_)
    unfold setAdd
    refine wpAny_holding (wpAny_bind ((PySem.strKind P w).pyHash (k := xs.getD i Str.empty) (strKind_is _ _ _ _) ?_))
    refine wpAny_setAddHashed_of (knd := PySem.strKind P w) (s := { z' with toks := z'.toks + 1 }) (strKind_is _ _ _ _) rfl hS' (by have := cnt_le xs i; unfold scanBound; omega) fun h' only hS2 => ?_
    have hSi : Holds P w h' S xs (i + 1) := by
      refine SetOf_congr hS2 (fun y => ?_) rfl
      show ((xs.take i).any (· == y) || decide (y = xs.getD i Str.empty)) = (xs.take (i + 1)).any (· == y)
      rw [take_one (by omega), List.any_append]
      have e : [xs.getD i Str.empty].any (· == y) = decide (y = xs.getD i Str.empty) := by
        by_cases e : y = xs.getD i Str.empty
        · subst e; simp
        · have hb : (xs.getD i Str.empty == y) = false := beq_eq_false_iff_ne.mpr fun q => e q.symm
          rw [decide_eq_false e]
          show ((xs.getD i Str.empty == y) || false) = false
          rw [hb]; rfl
      rw [e]
    refine wpAny_pure ⟨plainId_quiet PyProof.Rows.F.plain_set_update_loop _, ih (i + 1) _ (by omega) (W.frame _ z' _ _ st' (Nat.le_succ _) fun b hb o e => ?_) hSi fun z2 mv2 hS3 => ?_⟩
    · rw [only.2 b fun q : b = S => nS (by rw [← q]; exact hb)]; exact e
    · refine k z2 (Moved.trans W.gtrans ((mv.mono more).then_heap (Nat.le_succ _) fun b o hb e => ?_) mv2) hS3
      rw [only.2 b fun q : b = S => hb (by rw [q]; exact List.mem_cons_self)]; exact e
end
section
variable {P : Program} {w : World} {A : Around} {E : Value → Shared → Prop} {z : Shared}
abbrev set0 (led : Bool) : Obj := { cls := .type "set", dict := none, data := .set #[] 0 (.fresh 0 0 led) }
set_option maxHeartbeats 4000000 in
theorem make_set {a : Addr} {us : Array Value} {xs : List Str} {Q : Value → Shared → Prop} (calm : A.handled = none) (hseq : z.heap.IsList a us ∨ z.heap.IsTuple a us) (hi : StrsAre us.toList xs) (h1000 : xs.length ≤ 1000)
    (k : ∀ (h' : Heap) (tk : Nat), Holds P w h' z.heap.objs.size xs xs.length → (∀ b o, b < z.heap.objs.size → z.heap.get? b = some o → h'.get? b = some o) → Q (.ref z.heap.objs.size) { z with heap := h', toks := tk }) :
    wpAny (model P w) A (call (.type "set") [.ref a]) Q E z := by
  obtain ⟨c, tl, hmro⟩ := PySem.F.called_set.mro
  have hmade := PySem.F.called_set.made
  have hsub := PySem.F.called_set.sub
  have hsz : xs.length = us.size := by rw [← StrsAre.len_eq hi, Array.length_toList]
  have hval : ∀ (i : Nat) (v : Value), us[i]? = some v → ∃ t, v = .str (xs.getD i Str.empty) t := fun i v hv => SS.strs_at hi i v (by rw [Array.getElem?_toList]; exact hv)
  refine wpAny_call (codeAny_of_tree ?_)
  show wpAny _ _ (callAny (.type "set") _) _ _ _
  refine wpAny_pure ⟨Code.quiet_builtin _ (by decide +kernel), codeAny_builtin PySem.F.entry_type_call ?_⟩
  rw [Around.under_plain (weight_type_call_type "set" [.ref a] []) rfl]
  have t1 := PySem.F.called_set.notType
  have t2 := PySem.F.called_set.canCreate
  have t3 := PySem.F.typeCall_set_1 (.ref a)
  repeat (any_goals (first | assumption | wp_step))
  refine codeAny_mono (code_set_new_1 (.ref a) (E := E) (Q₁ := fun ob z1 => ∃ led : Bool, ob = .ref z.heap.objs.size ∧ z1 = { z with heap := z.heap.push (set0 led) }) fun led => ⟨led, rfl, rfl⟩) fun r z1 hr => ?_
  cases r with
  | error e => exact hr
  | ok fl =>
    cases fl with
    | next => exact hr.elim
    | brk => exact hr.elim
    | cont => exact hr.elim
    | ret ob =>
      obtain ⟨led, rfl, rfl⟩ := hr
      have hS : (z.heap.push (set0 led)).get? z.heap.objs.size = some (set0 led) := Heap.get?_push_size _ rfl
      have hT : Shared.TypeIs { z with heap := z.heap.push (set0 led) } (.ref z.heap.objs.size) "set" := ⟨_, hS, rfl⟩
      have hli := PySem.F.called_set.init.lookup
      have hbi := PySem.F.called_set.init.bind (.ref z.heap.objs.size)
      repeat (any_goals (first | assumption | wp_step))
      refine codeAny_mono (codeAny_call_builtin (R := wants (fun r z2 => r = .none ∧ ∃ h' tk, z2 = { z with heap := h', toks := tk } ∧ Holds P w h' z.heap.objs.size xs xs.length ∧
          (∀ b o, b < z.heap.objs.size → z.heap.get? b = some o → h'.get? b = some o)) E) PySem.F.called_set.init.plain PySem.F.entry_set_init (check_set_init_1 hT ?_)) fun r2 z2 hr2 => ?_
      · have fin : ∀ (T : String) (ob0 : Obj), a < z.heap.objs.size → ∀ z3 : Shared, Moved (z.heap.objs.size :: [(z.heap.push (set0 led)).objs.size]) (fun a b => b = a) { z with heap := (z.heap.push (set0 led)).push ob0 } z3 →
            Holds P w z3.heap z.heap.objs.size xs us.size → wants (fun r z2 => r = .none ∧ ∃ h' tk, z2 = { z with heap := h', toks := tk } ∧ Holds P w h' z.heap.objs.size xs xs.length ∧
              (∀ b o, b < z.heap.objs.size → z.heap.get? b = some o → h'.get? b = some o)) E (.ok (.ret .none)) z3 := by
          intro T ob0 ha z3 mv hS3
          obtain ⟨h', g', d', tk', os'⟩ := z3
          have e1 : g' = z.gens := mv.gens
          have e2 : d' = z.drawn := mv.drawn
          have e3 : os' = z.os := mv.os
          subst e1; subst e2; subst e3
          refine ⟨rfl, h', tk', rfl, by rw [hsz]; exact hS3, fun b o hb e => mv.heap b o (fun q => ?_) (Heap.get?_push_of_some _ (Heap.get?_push_of_some _ e))⟩
          rcases List.mem_cons.mp q with q | q
          · exact absurd q (Nat.ne_of_lt hb)
          · have q := List.mem_singleton.mp q
            rw [Heap.size_push] at q
            exact absurd q (Nat.ne_of_lt (Nat.lt_succ_of_lt hb))
        have calm3 : A.in1.in1.in1.handled = none := by simp [calm]
        have start : ∀ ob0 : Obj, Holds P w ((z.heap.push (set0 led)).push ob0) z.heap.objs.size xs 0 := fun ob0 =>
          SetOf_congr ((setObjOf_fresh (knd := PySem.strKind P w) led).setOf (Heap.get?_push_of_some _ hS) (by unfold scanBound; omega)) (fun _ => rfl) rfl
        rcases hseq with hl | hl
        · obtain ⟨⟨oc, od, oda, osl⟩, hol, hcl, nl, hdl⟩ := hl
          simp only at hcl hdl
          subst hcl; subst hdl
          have hlt : a < z.heap.objs.size := Heap.lt_size hol
          have hol' := Heap.get?_push_of_some (set0 led) hol
          have hsls := PySem.F.sub_list_set
          have hslf := PySem.F.sub_list_frozenset
          have hne : (Value.type "list" == Value.type "dict") = false := by decide
          have hl1 : (z.heap.push (set0 led)).IsList a us := ⟨_, hol', rfl, nl, rfl⟩
          unfold Builtin.«set.__init__» noKeywords Builtin.Frozenset.updateFrom
          generalize hPI : pyIter = PI
          wp_walk
          subst hPI
          refine wpAny_pyIter_list hl1 (wpAny_bind (wpAny_runValue ?_))
          have n1 : a ≠ (z.heap.push (set0 led)).objs.size := by rw [Heap.size_push]; exact Nat.ne_of_lt (Nat.lt_succ_of_lt hlt)
          have n2 : z.heap.objs.size ∉ [(z.heap.push (set0 led)).objs.size, a] := by
            rw [Heap.size_push]; simp only [List.mem_cons, List.not_mem_nil, or_false, not_or]; exact ⟨Nat.ne_of_lt (Nat.lt_succ_self _), Nat.ne_of_gt hlt⟩
          refine set_turns ((Walks.list calm3 _ a n1 us).toS) n2 xs hsz (by omega) hval us.size 0 _ (by omega) ⟨⟨_, Heap.get?_push_size _ rfl, rfl, rfl⟩, (hl1.push _)⟩ (start _) fun z3 mv hS3 => ?_
          obtain ⟨_, h', tk, rfl, q1, q2⟩ := fin "list" _ hlt z3 mv hS3
          show wpAny _ _ _ _ _ _
          refine wpAny_pure ?_
          show wpAny _ _ (ret Value.none) _ _ _
          exact wpAny_pure ⟨rfl, h', tk, rfl, q1, q2⟩
        · obtain ⟨⟨oc, od, oda, osl⟩, hol, hcl, nl, hdl⟩ := hl
          simp only at hcl hdl
          subst hcl; subst hdl
          have hlt : a < z.heap.objs.size := Heap.lt_size hol
          have hol' := Heap.get?_push_of_some (set0 led) hol
          have hsls := PySem.F.sub_tuple_set
          have hslf := PySem.F.sub_tuple_frozenset
          have hne : (Value.type "tuple" == Value.type "dict") = false := by decide
          have hl1 : (z.heap.push (set0 led)).IsTuple a us := ⟨_, hol', rfl, nl, rfl⟩
          unfold Builtin.«set.__init__» noKeywords Builtin.Frozenset.updateFrom
          generalize hPI : pyIter = PI
          wp_walk
          subst hPI
          refine wpAny_pyIter_tuple hl1 (wpAny_bind (wpAny_runValue ?_))
          have n1 : a ≠ (z.heap.push (set0 led)).objs.size := by rw [Heap.size_push]; exact Nat.ne_of_lt (Nat.lt_succ_of_lt hlt)
          have n2 : z.heap.objs.size ∉ [(z.heap.push (set0 led)).objs.size, a] := by
            rw [Heap.size_push]; simp only [List.mem_cons, List.not_mem_nil, or_false, not_or]; exact ⟨Nat.ne_of_lt (Nat.lt_succ_self _), Nat.ne_of_gt hlt⟩
          refine set_turns ((Walks.tuple calm3 _ a n1 us).toS) n2 xs hsz (by omega) hval us.size 0 _ (by omega) ⟨⟨_, Heap.get?_push_size _ rfl, rfl, rfl⟩, (hl1.push _)⟩ (start _) fun z3 mv hS3 => ?_
          obtain ⟨_, h', tk, rfl, q1, q2⟩ := fin "tuple" _ hlt z3 mv hS3
          show wpAny _ _ _ _ _ _
          refine wpAny_pure ?_
          show wpAny _ _ (ret Value.none) _ _ _
          exact wpAny_pure ⟨rfl, h', tk, rfl, q1, q2⟩
      · cases r2 with
        | error e => exact hr2
        | ok fl2 =>
          cases fl2 with
          | next => exact hr2.elim
          | brk => exact hr2.elim
          | cont => exact hr2.elim
          | ret r =>
            obtain ⟨rfl, h', tk, rfl, hS', hk'⟩ := hr2
            repeat (any_goals (first | assumption | wp_step))
            exact k _ _ hS' hk'
end
section
variable {X : Cx} {a : Expr} {σ : L2.St} {H : Hp} {Q : VK} {p p2 q pos : Pos}
/-- len(set(xs)), xs a list or tuple of texts -/
theorem e_lenSet (hm : X.mg "len" = none) (hm2 : X.mg "set" = none) (h : WE X a σ H fun x H1 => ∃ l, ∃ xs : List Str, x = .ref l ∧ (SqL X.K H1 l (xs.map V.str) ∨ SqT X.K H1 l (xs.map V.str)) ∧ xs.length ≤ 1000 ∧ Q (.int (cnt xs xs.length)) H1)
    (hc : X.calm = true := by rfl) (hg : Gl X "len" := by rfl) (hg2 : Gl X "set" := by rfl) (na : starEach [a] X.env = (false, eval a X.env) :: starEach [] X.env := by rfl) :
    WE X (.Call (.Name "len" p) [.Call (.Name "set" p2) [a] [] q] [] pos) σ H Q := by
  constructor
  intro pins s I
  refine Call_ (ld_blt I hg hm boot_len ?_)
  refine PyProof.Rows.callWith_builtin1 (PyProof.Rows.args_cons ?_ rfl) rfl rfl
  refine Call_ (ld_blt I hg2 hm2 boot_set ?_)
  refine PyProof.Rows.callWith_type1 (PyProof.Rows.args_cons (thn (h.go pins s I) fun v s1 ⟨x, H1, I1, r1, l, xs, e1, hq, hl, q1⟩ => PyProof.Rows.args_nil ?_) na) na rfl
  subst e1
  cases r1
  have fin : ∀ (us : List Value), Vals (xs.map V.str) us → (s1.heap.IsList l us.toArray ∨ s1.heap.IsTuple l us.toArray) →
      wpAny (model X.prog X.w) X.A (call (.type "set") [.ref l]) (fun v s₂ => wpAny (model X.prog X.w) X.A (spliced (backTo pos (starEach [] X.env))) (fun vs s₂ => wpAny (model X.prog X.w) X.A (call (.builtin "len") (v :: vs)) (EP X pins σ Q) X.xe s₂) X.xe s₂) X.xe s1 := fun us r hseq => by
    refine make_set (I1.ok.hd hc) hseq (by simpa using strsAre_of r) hl fun h' tk hS hk => ?_
    refine PyProof.Rows.args_nil ?_
    obtain ⟨o, es, ep, t, ho, hex, hd, _, _, _, hf, hn⟩ := hS
    have I2 : Inv X pins σ H1 { s1 with heap := h', toks := tk } := I1.kept fun b o e => hk b o (Heap.lt_size e) e
    have hcn := cnt_le xs xs.length
    refine call_len_set ho hex hd hf (by rw [hn]; omega) ⟨.int (cnt xs xs.length), H1, I2.tok _, ⟨_, by rw [hn]⟩, q1⟩
  rcases hq with hq | hq
  · obtain ⟨us, r, pl, hz⟩ := I1.list hq
    exact fin us r (.inl pl.isList)
  · obtain ⟨us, r, pl, hz⟩ := I1.tuple hq
    exact fin us r (.inr pl)
end
end My

namespace My
open PySem PySem.Spec PyProof.Rows L2
/-! ### sets of texts whose table rises: they can be walked -/
def txOf (e : Int × Value) : Str := match e.2 with | .str x _ => x | _ => Str.empty
def GoodT (w : World) (e : Int × Value) : Prop := ∃ x tk, e.2 = Value.str x tk ∧ e.1 = hashStr w x
/-- the set at a: the texts S, n of them -/
def SetT (w : World) (h : Heap) (a : Addr) (S : Str → Bool) (n : Nat) : Prop :=
  ∃ o es ep t, (h.get? a = some o ∧ o.ExactSet ∧ o.data = .set es ep t) ∧ ((∀ e ∈ es.toList, GoodT w e) ∧ (es.toList.map txOf).Nodup ∧ ∀ k, S k = true ↔ k ∈ es.toList.map txOf) ∧
    (es.size < scanBound ∧ t.fits es.size = true ∧ es.size = n) ∧ Ris t.place.toList ∧ (w.params.followText "set-order" = true ∨ t.led = true)
section
variable {P : Program} {w : World} {h h' : Heap} {a : Addr} {S : Str → Bool} {n : Nat}
theorem goodT_elems {l : List (Int × Value)} (g : ∀ e ∈ l, GoodT w e) : ElemsOf (PySem.strKind P w) l := fun e he => by
  obtain ⟨x, tk, h1, h2⟩ := g e he
  exact ⟨⟨x, by rw [h1]; exact strKind_is P w x tk, h2⟩, by rw [h1] <;> rfl⟩
theorem goodT_is {e : Int × Value} (g : GoodT w e) (k : Str) : (PySem.strKind P w).is k e.2 = true ↔ txOf e = k := by
  obtain ⟨x, tk, h1, _⟩ := g
  unfold txOf
  rw [h1]
  show ((x == k) = true) ↔ x = k
  exact beq_iff_eq
theorem goodT_mem {l : List (Int × Value)} (g : ∀ e ∈ l, GoodT w e) (k : Str) : k ∈ l.map txOf ↔ ∃ e ∈ l, (PySem.strKind P w).is k e.2 = true := by
  rw [List.mem_map]
  exact ⟨fun ⟨e, he, q⟩ => ⟨e, he, (goodT_is (P := P) (g e he) k).2 q⟩, fun ⟨e, he, q⟩ => ⟨e, he, (goodT_is (P := P) (g e he) k).1 q⟩⟩
theorem SetT.setOf (R : SetT w h a S n) : h.SetOf (PySem.strKind P w) a S n := by
  obtain ⟨o, es, ep, t, ⟨ho, hx, hd⟩, ⟨g, nd, hm⟩, ⟨hb, hf, hn⟩, _⟩ := R
  exact ⟨o, es, ep, t, ho, hx, hd, goodT_elems g, fun k => (hm k).trans (goodT_mem (P := P) g k), hb, hf, hn⟩
theorem SetT.at (R : SetT w h a S n) (k : ∀ o, h.get? a = some o → h'.get? a = some o) : SetT w h' a S n := by
  obtain ⟨o, es, ep, t, ⟨ho, r1⟩, r2⟩ := R
  exact ⟨o, es, ep, t, ⟨k o ho, r1⟩, r2⟩
theorem SetT.congr {S' : Str → Bool} {m : Nat} (R : SetT w h a S n) (e : ∀ k, S' k = S k) (em : m = n) : SetT w h a S' m := by
  rw [funext e, em]; exact R
end
section
variable {P : Program} {w : World} {A : Around} {E : Value → Shared → Prop} {s : Shared} {a : Addr} {S : Str → Bool} {n : Nat}
/-- the end of an insertion: stored, and laid anew where the table is too full -/
theorem setT_tail {g : Bool → Sem Unit} (hg : ∀ (b : Bool) (s₁ : Shared) (Q' : Unit → Shared → Prop), Q' () s₁ → wpAny (model P w) A (g b) Q' E s₁)
    {o : Obj} {es : Array (Int × Value)} {ep : Nat} {t : SetTable} (ho : s.heap.get? a = some o) (hex : o.ExactSet) (hd : o.data = .set es ep t)
    {es1 : Array (Int × Value)} {t2 : SetTable} {S' : Str → Bool} (g1 : ∀ e ∈ es1.toList, GoodT w e) (nd1 : (es1.toList.map txOf).Nodup) (m1 : ∀ k, S' k = true ↔ k ∈ es1.toList.map txOf)
    (hb1 : es1.size < scanBound) (hf2 : t2.fits es1.size = true) (hr : Ris t2.place.toList) (hl : w.params.followText "set-order" = true ∨ t2.led = true) {wasDummy : Bool} {R : Option Bool → Shared → Prop}
    (hR : ∀ h', Heap.SameBut a s.heap h' → SetT w h' a S' es1.size → R (some true) { s with heap := h' }) :
    wpAny (model P w) A (do
        storeSet a es1 t2
        if (!wasDummy && t2.tooFull) = true then do
            g (relayAll t2 es1 (SetTable.grown es1.size)).2.2
            storeSet a (relayAll t2 es1 (SetTable.grown es1.size)).1 (relayAll t2 es1 (SetTable.grown es1.size)).2.1
            pure (some true)
          else pure (some true)) R E s := by
  refine wpAny_bind (wpAny_storeSet_of ho hd ?_ (fits_of_scanBound hb1))
  have at1 := store_at (es' := es1) (t' := t2) ho hd
  have sb := Heap.SameBut.update s.heap a (Obj.putSet es1 t2)
  split
  · have p1 := relayAll_perm t2 es1 (SetTable.grown es1.size)
    have p2 := relayAll_fits t2 es1 (SetTable.grown es1.size)
    have p3 := relayAll_ris t2 es1 (SetTable.grown es1.size)
    have p4 := relayAll_led t2 es1 (SetTable.grown es1.size)
    generalize relayAll t2 es1 (SetTable.grown es1.size) = Z at p1 p2 p3 p4 ⊢
    obtain ⟨es2, t3, gave⟩ := Z
    dsimp only at p1 p2 p3 p4 ⊢
    have sz : es2.size = es1.size := by rw [← Array.length_toList, p1.length_eq, Array.length_toList]
    refine wpAny_bind (hg _ _ _ (wpAny_bind (wpAny_storeSet_of at1 rfl ?_ (fits_of_scanBound (by rw [sz]; exact hb1)))))
    have at2 := store_at (es' := es2) (t' := t3) at1 rfl
    refine wpAny_pure (hR _ (sb.trans (Heap.SameBut.update _ a _)) ?_)
    exact ⟨_, es2, _, t3, ⟨at2, hex, rfl⟩, ⟨fun e he => g1 e (p1.mem_iff.mp he), (p1.map txOf).nodup_iff.mpr nd1, fun k => (m1 k).trans (p1.map txOf).mem_iff.symm⟩, ⟨by rw [sz]; exact hb1, p2, sz⟩, p3,
      hl.imp id fun z => by rw [p4]; exact z⟩
  · exact wpAny_pure (hR _ sb ⟨_, es1, _, t2, ⟨at1, hex, rfl⟩, ⟨g1, nd1, m1⟩, ⟨hb1, hf2, rfl⟩, hr, hl⟩)
theorem setT_add {k : Str} {tk : Tok} {Q : Bool → Shared → Prop} (R : SetT w s.heap a S n) (room : n + 1 < scanBound)
    (hQ : ∀ h', Heap.SameBut a s.heap h' → SetT w h' a (fun j => S j || decide (j = k)) (if S k = true then n else n + 1) → Q (!S k) { s with heap := h' }) :
    wpAny (model P w) A (setAddHashed a (.str k tk) ((PySem.strKind P w).hash k)) Q E s := by
  obtain ⟨o, es, ep, t, ⟨ho, hex, hd⟩, ⟨g, nd, hm⟩, ⟨hb, hf, hn⟩, hr, hl⟩ := R
  have hkey : (PySem.strKind P w).is k (.str k tk) = true := strKind_is P w k tk
  have hsc : (Value.str k tk).scannable = true := rfl
  have hel : ElemsOf (PySem.strKind P w) es.toList := goodT_elems g
  unfold setAddHashed setAddHashedIn
  refine wpAny_holding (wpAny_bind (wpAny_setState_of ho hd hf ?_))
  dsimp only
  rw [byScan_of hsc hb hel]
  simp only [↓reduceIte]
  unfold setAddByScan
  refine wpAny_bind (wpAny_bind (wpAny_rule (wpAny_bind (wpAny_setScan_of hkey ho hd hf hel ?_))))
  cases hfi : List.findIdx? (fun e => (PySem.strKind P w).is k e.2) es.toList with
  | some j =>
    dsimp only
    obtain ⟨hj, pj, _⟩ := List.findIdx?_eq_some_iff_getElem.mp hfi
    have yes : S k = true := (hm k).2 ((goodT_mem (P := P) g k).2 ⟨es.toList[j], List.getElem_mem hj, pj⟩)
    refine wpAny_pure (wpAny_pure ?_)
    have q := hQ s.heap (Heap.SameBut.refl a s.heap) ⟨o, es, ep, t, ⟨ho, hex, hd⟩, ⟨g, nd, fun i => by
      rw [Bool.or_eq_true, decide_eq_true_eq, ← hm i]
      exact ⟨fun z => z.elim id (fun e => e ▸ yes), .inl⟩⟩, ⟨hb, hf, by rw [if_pos yes]; exact hn⟩, hr, hl⟩
    rw [yes] at q
    exact q
  | none =>
    dsimp only
    have new : k ∉ es.toList.map txOf := fun z => by
      obtain ⟨e, he, q⟩ := (goodT_mem (P := P) g k).1 z
      have c := List.findIdx?_eq_none_iff.mp hfi e he
      rw [q] at c
      cases c
    have no : S k = false := by
      cases q : S k with
      | false => rfl
      | true => exact absurd ((hm k).1 q) new
    have hgw : ∀ (b : Bool) {s₁ : Shared} {Q' : Unit → Shared → Prop}, Q' () s₁ → wpAny (model P w) A (match b with | true => rule "set.scan.the-table-gave-way" | false => pure ()) Q' E s₁ :=
      fun b s₁ Q' q => by cases b <;> first | exact wpAny_pure q | exact wpAny_rule q
    have p1 := layNew_perm t es ((PySem.strKind P w).hash k) (.str k tk)
    have p2 := layNew_fits t es ((PySem.strKind P w).hash k) (.str k tk)
    have p3 := layNew_ris t es ((PySem.strKind P w).hash k) (.str k tk) hr
    have p4 := layNew_led t es ((PySem.strKind P w).hash k) (.str k tk)
    generalize layNew t es ((PySem.strKind P w).hash k) (.str k tk) = Z at p1 p2 p3 p4 ⊢
    obtain ⟨es1, t1, wasDummy, gave⟩ := Z
    dsimp only at p1 p2 p3 p4 ⊢
    rw [Array.toList_push] at p1
    have pc : es1.toList.Perm (((PySem.strKind P w).hash k, Value.str k tk) :: es.toList) := p1.trans (List.perm_append_singleton _ _)
    have pk : (es1.toList.map txOf).Perm (k :: es.toList.map txOf) := pc.map txOf
    have g1 : ∀ e ∈ es1.toList, GoodT w e := fun e he => by
      rcases List.mem_cons.mp (pc.mem_iff.mp he) with z | z
      · rw [z]; exact ⟨k, tk, rfl, rfl⟩
      · exact g e z
    have nd1 : (es1.toList.map txOf).Nodup := pk.nodup_iff.mpr (List.nodup_cons.mpr ⟨new, nd⟩)
    have m1 : ∀ i, (S i || decide (i = k)) = true ↔ i ∈ es1.toList.map txOf := fun i => by
      rw [Bool.or_eq_true, decide_eq_true_eq, hm i, pk.mem_iff, List.mem_cons]
      exact Or.comm
    have sz : es1.size = n + 1 := by rw [← Array.length_toList, pc.length_eq, List.length_cons, Array.length_toList, hn]
    have led1 : w.params.followText "set-order" = true ∨ t1.led = true := hl.imp id fun z => by rw [p4]; exact z
    have fin : ∀ h', Heap.SameBut a s.heap h' → SetT w h' a (fun j => S j || decide (j = k)) es1.size → Q true { s with heap := h' } := fun h' sb r => by
      have q := hQ h' sb
      rw [no] at q
      rw [sz] at r
      exact q r
    refine wpAny_bind (hgw _ ?_)
    split
    · refine wpAny_bind ?_
      rw [hashByValue_scannable 8 hsc]
      refine wpAny_pure (setT_tail ?_ ho hex hd g1 nd1 m1 (by rw [sz]; exact room) ?_ ?_ ?_ ?_)
      · intro b s₁ Q' q; cases b <;> first | exact wpAny_pure q | exact wpAny_rule q
      · first | (split <;> first | exact p2 | exact SetTable.fits_plain_off p2) | exact p2
      · first | (split <;> exact p3) | exact p3
      · first | (split <;> exact led1) | exact led1
      · intro h' sb r; dsimp only; exact wpAny_pure (fin h' sb r)
    · refine wpAny_bind (wpAny_pure ?_)
      simp only [↓reduceIte]
      refine setT_tail ?_ ho hex hd g1 nd1 m1 (by rw [sz]; exact room) p2 p3 led1 ?_
      · intro b s₁ Q' q; cases b <;> first | exact wpAny_pure q | exact wpAny_rule q
      · intro h' sb r; dsimp only; exact wpAny_pure (fin h' sb r)
/-! ### sorted -/
theorem txs_of : ∀ (l : List Value), (∀ v ∈ l, ∃ x tk, v = Value.str x tk) → StrsAre l (l.map fun v => txOf (0, v))
  | [], _ => .nil
  | v :: l, h => by
    obtain ⟨x, tk, rfl⟩ := h v List.mem_cons_self
    exact .cons x tk (txs_of l fun u hu => h u (List.mem_cons_of_mem _ hu))
theorem sorted_setT {Q : Value → Shared → Prop} (R : SetT w s.heap a S n) (hh : A.handled = none) (h64 : n < 64)
    (hQ : ∀ s' p (out : Array Value) (c : Nat) (ys : List Str), (∀ b o, s.heap.get? b = some o → s'.heap.get? b = some o) → s'.gens = s.gens → s'.os = s.os → s.heap.objs.size ≤ p →
      s'.heap.get? p = some (seqObj "list" out c) → StrsAre out.toList ys → sortedS ys = true → ys.Nodup → (∀ k, k ∈ ys ↔ S k = true) → ys.length = n → Q (.ref p) s') :
    wpAny (model P w) A (call (.builtin "sorted") [.ref a]) Q E s := by
  obtain ⟨o, es, ep, t, ⟨ho, hex, hd⟩, ⟨g, nd, hm⟩, ⟨hb, hf, hn⟩, hr, hl⟩ := R
  refine Calls.call_function_entry kind_sorted plain_sorted entry_sorted (args_sorted1 _) ?_
  unfold Builtin.«sorted»
  refine wpAny_bind (m := checkCount "sorted" 1 1 _) (wpAny_pure ?_)
  refine wpAny_bind (collect_set (A := A.in1) hh ⟨o, ho, hex.1, hd⟩ hf hb hr hl fun s1 vs k1 hz g1 o1 pm => ?_)
  have hvl : vs.length = n := by rw [pm.length_eq, List.length_map, Array.length_toList]; exact hn
  have hI : StrsAre vs (vs.map fun v => txOf (0, v)) := txs_of vs fun v hv => by
    obtain ⟨e, he, q⟩ := List.mem_map.mp (pm.mem_iff.mp hv)
    obtain ⟨x, tk, h1, _⟩ := g e he
    exact ⟨x, tk, by rw [← q]; exact h1⟩
  have pk : (vs.map fun v => txOf (0, v)).Perm (es.toList.map txOf) := by
    have q := pm.map fun v => txOf (0, v)
    rw [List.map_map] at q
    exact q
  refine wpAny_bind (wpAny_newList ?_ (by rw [hvl, sizeLine_eq]; omega))
  have hoL : (s1.heap.push (seqObj "list" vs.toArray 0)).get? s1.heap.objs.size = some (seqObj "list" vs.toArray 0) := Heap.get?_push_size _ rfl
  refine wpAny_bind (wpAny_holding (wpAny_call_entry slot_list_sort ⟨_, hoL, rfl⟩ entry_list_sort (list_sort_treeK strKind_oneLt hoL hI.keysOf (fun v1 v2 r e => keyKind_strs (by rw [← e]; exact hI)) (by rw [hvl]; exact h64) fun st hp hst => ⟨_, rfl, ?_⟩) (args_list_sort _)))
  obtain ⟨ys, h1, h2, h3⟩ := sorted_out_str hI hp hst
  generalize Array.map (fun x => x.snd) (arrOf st) = out at h1 ⊢
  have pn : ys.Perm (es.toList.map txOf) := h2.trans pk
  obtain ⟨c, hc⟩ := sortedHeap_at (vs := vs) (out := out) hoL
  refine wpAny_pure ⟨_, rfl, hQ _ s1.heap.objs.size out c ys (fun b u e => ?_) g1 o1 hz hc h1 h3 (pn.nodup_iff.mpr nd) (fun k => by rw [pn.mem_iff, ← hm k]) ?_⟩
  · have q := k1 b u e
    have hlt := Heap.lt_size q
    show (sortedHeap (s1.heap.push (seqObj "list" vs.toArray 0)) s1.heap.objs.size vs out).get? b = some u
    rw [sortedHeap_old (Nat.ne_of_lt hlt) (by rw [size_push']; exact Nat.lt_succ_of_lt hlt)]
    exact Heap.get?_push_of_some _ q
  · rw [pn.length_eq, List.length_map, Array.length_toList]; exact hn
end
end My

namespace My
open PySem PySem.Spec PyProof.Rows L2
section
variable {P : Program} {w : World} {A : Around} {R : Result → Shared → Prop} {I S : Addr} {fp wr : List Addr} {G : Array GenState → Array GenState → Prop} {n : Nat} {Pi : Nat → Value → Prop} {St : Nat → Shared → Prop}
abbrev HoldT (w : World) (h : Heap) (S : Addr) (xs : List Str) (i : Nat) : Prop := SetT w h S (fun k => (xs.take i).any (· == k)) (cnt xs i)
theorem setT_turns (W : WalksS P w A.in1 I fp wr G n Pi St) (nS : S ∉ fp) (xs : List Str) (hn : xs.length = n) (h64 : n ≤ 1000) (hv : ∀ i v, Pi i v → ∃ t, v = .str (xs.getD i Str.empty) t) :
    ∀ (m i : Nat) (z : Shared), i + m = n → St i z → HoldT w z.heap S xs i →
      (∀ z', Moved (S :: wr) G z z' → HoldT w z'.heap S xs n → R (.ok (.ret .none)) z') → codeAny (model P w) A (.builtin "set.update.loop" ⟨[.ref S, .ref I], []⟩) R z := by
  have nSw : S ∉ wr := fun h => nS (W.sub _ h)
  have more : ∀ b ∈ wr, b ∈ S :: wr := fun b hb => List.mem_cons_of_mem _ hb
  intro m
  induction m with
  | zero =>
    intro i z hi st hS k
    have ei : i = n := by omega
    subst ei
    refine codeAny_builtin PyProof.Rows.F.entry_set_update_loop ?_
    rw [Around.under_plainId PyProof.Rows.F.plain_set_update_loop _]
    show wpAny _ A.in1 (pyNext (.ref I) >>= _) _ _ z
    refine wpAny_bind (W.done z _ _ st fun z' mv => ?_)
    show wpAny _ A.in1 (ret Value.none) _ _ z'
    exact wpAny_pure (k z' (mv.mono more) (SetT.at hS fun o ho => mv.heap S _ nSw ho))
  | succ m ih =>
    intro i z hi st hS k
    have hlt : i < n := by omega
    refine codeAny_builtin PyProof.Rows.F.entry_set_update_loop ?_
    rw [Around.under_plainId PyProof.Rows.F.plain_set_update_loop _]
    show wpAny _ A.in1 (pyNext (.ref I) >>= _) _ _ z
    refine wpAny_bind (W.item i z _ _ hlt st fun v z' hP st' mv => ?_)
    obtain ⟨t, rfl⟩ := hv i v hP
    have hS' : HoldT w z'.heap S xs i := SetT.at hS fun o ho => mv.heap S _ nSw ho
    show wpAny _ A.in1 (holding [Value.str (xs.getD i Str.empty) t] (setAdd S (.str (xs.getD i Str.empty) t)) >>= _) _ _ z'
    refine wpAny_bind (wpAny_holding ?_)
    unfold setAdd
    refine wpAny_holding (wpAny_bind ((PySem.strKind P w).pyHash (k := xs.getD i Str.empty) (strKind_is _ _ _ _) ?_))
    refine setT_add (s := { z' with toks := z'.toks + 1 }) hS' (by have := cnt_le xs i; unfold scanBound; omega) fun h' only hS2 => ?_
    have hSi : HoldT w h' S xs (i + 1) := by
      refine hS2.congr (fun y => Eq.symm ?_) rfl
      show ((xs.take i).any (· == y) || decide (y = xs.getD i Str.empty)) = (xs.take (i + 1)).any (· == y)
      rw [take_one (by omega), List.any_append]
      have e : [xs.getD i Str.empty].any (· == y) = decide (y = xs.getD i Str.empty) := by
        by_cases e : y = xs.getD i Str.empty
        · subst e; simp
        · have hb : (xs.getD i Str.empty == y) = false := beq_eq_false_iff_ne.mpr fun q => e q.symm
          rw [decide_eq_false e]
          show ((xs.getD i Str.empty == y) || false) = false
          rw [hb]; rfl
      rw [e]
    refine wpAny_pure ⟨plainId_quiet PyProof.Rows.F.plain_set_update_loop _, ih (i + 1) _ (by omega) (W.frame _ z' _ _ st' (Nat.le_succ _) fun b hb o e => ?_) hSi fun z2 mv2 hS3 => ?_⟩
    · rw [only.2 b fun q : b = S => nS (by rw [← q]; exact hb)]; exact e
    · refine k z2 (Moved.trans W.gtrans ((mv.mono more).then_heap (Nat.le_succ _) fun b o hb e => ?_) mv2) hS3
      rw [only.2 b fun q : b = S => hb (by rw [q]; exact List.mem_cons_self)]; exact e
end
section
variable {P : Program} {w : World} {A : Around} {E : Value → Shared → Prop} {z : Shared}
set_option maxHeartbeats 4000000 in
theorem make_setT {a : Addr} {us : Array Value} {xs : List Str} {Q : Value → Shared → Prop} (calm : A.handled = none) (hseq : z.heap.IsList a us ∨ z.heap.IsTuple a us) (hi : StrsAre us.toList xs) (h1000 : xs.length ≤ 1000)
    (k : ∀ (h' : Heap) (tk : Nat), HoldT w h' z.heap.objs.size xs xs.length → (∀ b o, b < z.heap.objs.size → z.heap.get? b = some o → h'.get? b = some o) → Q (.ref z.heap.objs.size) { z with heap := h', toks := tk }) :
    wpAny (model P w) A (call (.type "set") [.ref a]) Q E z := by
  obtain ⟨c, tl, hmro⟩ := PySem.F.called_set.mro
  have hmade := PySem.F.called_set.made
  have hsub := PySem.F.called_set.sub
  have hsz : xs.length = us.size := by rw [← StrsAre.len_eq hi, Array.length_toList]
  have hval : ∀ (i : Nat) (v : Value), us[i]? = some v → ∃ t, v = .str (xs.getD i Str.empty) t := fun i v hv => SS.strs_at hi i v (by rw [Array.getElem?_toList]; exact hv)
  refine wpAny_call (codeAny_of_tree ?_)
  show wpAny _ _ (callAny (.type "set") _) _ _ _
  refine wpAny_pure ⟨Code.quiet_builtin _ (by decide +kernel), codeAny_builtin PySem.F.entry_type_call ?_⟩
  rw [Around.under_plain (weight_type_call_type "set" [.ref a] []) rfl]
  have t1 := PySem.F.called_set.notType
  have t2 := PySem.F.called_set.canCreate
  have t3 := PySem.F.typeCall_set_1 (.ref a)
  repeat (any_goals (first | assumption | wp_step))
  refine codeAny_mono (code_set_led1 (.ref a) (E := E) (Q₁ := fun ob z1 => ∃ led : Bool, led = (!w.params.followText "set-order") ∧ ob = .ref z.heap.objs.size ∧ z1 = { z with heap := z.heap.push (set0 led) }) ⟨_, rfl, rfl, rfl⟩) fun r z1 hr => ?_
  cases r with
  | error e => exact hr
  | ok fl =>
    cases fl with
    | next => exact hr.elim
    | brk => exact hr.elim
    | cont => exact hr.elim
    | ret ob =>
      obtain ⟨led, hled, rfl, rfl⟩ := hr
      have hS : (z.heap.push (set0 led)).get? z.heap.objs.size = some (set0 led) := Heap.get?_push_size _ rfl
      have hT : Shared.TypeIs { z with heap := z.heap.push (set0 led) } (.ref z.heap.objs.size) "set" := ⟨_, hS, rfl⟩
      have hli := PySem.F.called_set.init.lookup
      have hbi := PySem.F.called_set.init.bind (.ref z.heap.objs.size)
      repeat (any_goals (first | assumption | wp_step))
      refine codeAny_mono (codeAny_call_builtin (R := wants (fun r z2 => r = .none ∧ ∃ h' tk, z2 = { z with heap := h', toks := tk } ∧ HoldT w h' z.heap.objs.size xs xs.length ∧
          (∀ b o, b < z.heap.objs.size → z.heap.get? b = some o → h'.get? b = some o)) E) PySem.F.called_set.init.plain PySem.F.entry_set_init (check_set_init_1 hT ?_)) fun r2 z2 hr2 => ?_
      · have fin : ∀ (T : String) (ob0 : Obj), a < z.heap.objs.size → ∀ z3 : Shared, Moved (z.heap.objs.size :: [(z.heap.push (set0 led)).objs.size]) (fun a b => b = a) { z with heap := (z.heap.push (set0 led)).push ob0 } z3 →
            HoldT w z3.heap z.heap.objs.size xs us.size → wants (fun r z2 => r = .none ∧ ∃ h' tk, z2 = { z with heap := h', toks := tk } ∧ HoldT w h' z.heap.objs.size xs xs.length ∧
              (∀ b o, b < z.heap.objs.size → z.heap.get? b = some o → h'.get? b = some o)) E (.ok (.ret .none)) z3 := by
          intro T ob0 ha z3 mv hS3
          obtain ⟨h', g', d', tk', os'⟩ := z3
          have e1 : g' = z.gens := mv.gens
          have e2 : d' = z.drawn := mv.drawn
          have e3 : os' = z.os := mv.os
          subst e1; subst e2; subst e3
          refine ⟨rfl, h', tk', rfl, by rw [hsz]; exact hS3, fun b o hb e => mv.heap b o (fun q => ?_) (Heap.get?_push_of_some _ (Heap.get?_push_of_some _ e))⟩
          rcases List.mem_cons.mp q with q | q
          · exact absurd q (Nat.ne_of_lt hb)
          · have q := List.mem_singleton.mp q
            rw [Heap.size_push] at q
            exact absurd q (Nat.ne_of_lt (Nat.lt_succ_of_lt hb))
        have calm3 : A.in1.in1.in1.handled = none := by simp [calm]
        have start : ∀ ob0 : Obj, HoldT w ((z.heap.push (set0 led)).push ob0) z.heap.objs.size xs 0 := fun ob0 =>
          ⟨_, #[], 0, _, ⟨Heap.get?_push_of_some _ hS, ⟨rfl, rfl, rfl⟩, rfl⟩, ⟨fun e he => by simp at he, by simp, fun k => by simp⟩, ⟨by decide, by rfl, rfl⟩, List.Pairwise.nil, by
            show _ ∨ led = true
            rw [hled]
            cases w.params.followText "set-order"
            · exact .inr rfl
            · exact .inl rfl⟩
        rcases hseq with hl | hl
        · obtain ⟨⟨oc, od, oda, osl⟩, hol, hcl, nl, hdl⟩ := hl
          simp only at hcl hdl
          subst hcl; subst hdl
          have hlt : a < z.heap.objs.size := Heap.lt_size hol
          have hol' := Heap.get?_push_of_some (set0 led) hol
          have hsls := PySem.F.sub_list_set
          have hslf := PySem.F.sub_list_frozenset
          have hne : (Value.type "list" == Value.type "dict") = false := by decide
          have hl1 : (z.heap.push (set0 led)).IsList a us := ⟨_, hol', rfl, nl, rfl⟩
          unfold Builtin.«set.__init__» noKeywords Builtin.Frozenset.updateFrom
          generalize hPI : pyIter = PI
          wp_walk
          subst hPI
          refine wpAny_pyIter_list hl1 (wpAny_bind (wpAny_runValue ?_))
          have n1 : a ≠ (z.heap.push (set0 led)).objs.size := by rw [Heap.size_push]; exact Nat.ne_of_lt (Nat.lt_succ_of_lt hlt)
          have n2 : z.heap.objs.size ∉ [(z.heap.push (set0 led)).objs.size, a] := by
            rw [Heap.size_push]; simp only [List.mem_cons, List.not_mem_nil, or_false, not_or]; exact ⟨Nat.ne_of_lt (Nat.lt_succ_self _), Nat.ne_of_gt hlt⟩
          refine setT_turns ((Walks.list calm3 _ a n1 us).toS) n2 xs hsz (by omega) hval us.size 0 _ (by omega) ⟨⟨_, Heap.get?_push_size _ rfl, rfl, rfl⟩, (hl1.push _)⟩ (start _) fun z3 mv hS3 => ?_
          obtain ⟨_, h', tk, rfl, q1, q2⟩ := fin "list" _ hlt z3 mv hS3
          show wpAny _ _ _ _ _ _
          refine wpAny_pure ?_
          show wpAny _ _ (ret Value.none) _ _ _
          exact wpAny_pure ⟨rfl, h', tk, rfl, q1, q2⟩
        · obtain ⟨⟨oc, od, oda, osl⟩, hol, hcl, nl, hdl⟩ := hl
          simp only at hcl hdl
          subst hcl; subst hdl
          have hlt : a < z.heap.objs.size := Heap.lt_size hol
          have hol' := Heap.get?_push_of_some (set0 led) hol
          have hsls := PySem.F.sub_tuple_set
          have hslf := PySem.F.sub_tuple_frozenset
          have hne : (Value.type "tuple" == Value.type "dict") = false := by decide
          have hl1 : (z.heap.push (set0 led)).IsTuple a us := ⟨_, hol', rfl, nl, rfl⟩
          unfold Builtin.«set.__init__» noKeywords Builtin.Frozenset.updateFrom
          generalize hPI : pyIter = PI
          wp_walk
          subst hPI
          refine wpAny_pyIter_tuple hl1 (wpAny_bind (wpAny_runValue ?_))
          have n1 : a ≠ (z.heap.push (set0 led)).objs.size := by rw [Heap.size_push]; exact Nat.ne_of_lt (Nat.lt_succ_of_lt hlt)
          have n2 : z.heap.objs.size ∉ [(z.heap.push (set0 led)).objs.size, a] := by
            rw [Heap.size_push]; simp only [List.mem_cons, List.not_mem_nil, or_false, not_or]; exact ⟨Nat.ne_of_lt (Nat.lt_succ_self _), Nat.ne_of_gt hlt⟩
          refine setT_turns ((Walks.tuple calm3 _ a n1 us).toS) n2 xs hsz (by omega) hval us.size 0 _ (by omega) ⟨⟨_, Heap.get?_push_size _ rfl, rfl, rfl⟩, (hl1.push _)⟩ (start _) fun z3 mv hS3 => ?_
          obtain ⟨_, h', tk, rfl, q1, q2⟩ := fin "tuple" _ hlt z3 mv hS3
          show wpAny _ _ _ _ _ _
          refine wpAny_pure ?_
          show wpAny _ _ (ret Value.none) _ _ _
          exact wpAny_pure ⟨rfl, h', tk, rfl, q1, q2⟩
      · cases r2 with
        | error e => exact hr2
        | ok fl2 =>
          cases fl2 with
          | next => exact hr2.elim
          | brk => exact hr2.elim
          | cont => exact hr2.elim
          | ret r =>
            obtain ⟨rfl, h', tk, rfl, hS', hk'⟩ := hr2
            repeat (any_goals (first | assumption | wp_step))
            exact k _ _ hS' hk'
end
section
variable {X : Cx} {a : Expr} {σ : L2.St} {H : Hp} {Q : VK} {p p2 q pos : Pos}
theorem any_mem (xs : List Str) (k : Str) : (xs.any (· == k)) = true ↔ k ∈ xs := by
  rw [List.any_eq_true]
  exact ⟨fun ⟨x, h, e⟩ => by rw [← beq_iff_eq.mp e]; exact h, fun h => ⟨k, h, beq_self_eq_true k⟩⟩
/-- sorted(set(xs)), xs a list or tuple of texts -/
theorem e_sortedSet (hm : X.mg "sorted" = none) (hm2 : X.mg "set" = none) (h : WE X a σ H fun x H1 => ∃ l, ∃ xs : List Str, x = .ref l ∧ (SqL X.K H1 l (xs.map V.str) ∨ SqT X.K H1 l (xs.map V.str)) ∧ xs.length < 64 ∧
      ∀ (ys : List Str) (t : Addr), sortedS ys = true → ys.Nodup → (∀ k, k ∈ ys ↔ k ∈ xs) → ys.length = cnt xs xs.length → H1 t = none → Q (.ref t) (upd H1 t (.lst (ys.map V.str))))
    (hc : X.calm = true := by rfl) (hg : Gl X "sorted" := by rfl) (hg2 : Gl X "set" := by rfl) (na : starEach [a] X.env = (false, eval a X.env) :: starEach [] X.env := by rfl) :
    WE X (.Call (.Name "sorted" p) [.Call (.Name "set" p2) [a] [] q] [] pos) σ H Q := by
  constructor
  intro pins s I
  refine Call_ (ld_blt I hg hm PyProof.Rows.boot_sorted ?_)
  refine PyProof.Rows.callWith_builtin1 (PyProof.Rows.args_cons ?_ rfl) rfl rfl
  refine Call_ (ld_blt I hg2 hm2 boot_set ?_)
  refine PyProof.Rows.callWith_type1 (PyProof.Rows.args_cons (thn (h.go pins s I) fun v s1 ⟨x, H1, I1, r1, l, xs, e1, hq, hl, q1⟩ => PyProof.Rows.args_nil ?_) na) na rfl
  subst e1
  cases r1
  have fin : ∀ (us : List Value), Vals (xs.map V.str) us → (s1.heap.IsList l us.toArray ∨ s1.heap.IsTuple l us.toArray) →
      wpAny (model X.prog X.w) X.A (call (.type "set") [.ref l]) (fun v s₂ => wpAny (model X.prog X.w) X.A (spliced (backTo pos (starEach [] X.env))) (fun vs s₂ => wpAny (model X.prog X.w) X.A (call (.builtin "sorted") (v :: vs)) (EP X pins σ Q) X.xe s₂) X.xe s₂) X.xe s1 := fun us r hseq => by
    refine make_setT (I1.ok.hd hc) hseq (by simpa using strsAre_of r) (by omega) fun h' tk hS hk => ?_
    refine PyProof.Rows.args_nil ?_
    have I2 : Inv X pins σ H1 { s1 with heap := h', toks := tk } := I1.kept fun b o e => hk b o (Heap.lt_size e) e
    have hcn := cnt_le xs xs.length
    refine sorted_setT hS (I2.ok.hd hc) (by omega) fun s' t out c ys k g o hp ho hi hs hnd hmem hlen => ?_
    have hlen2 : (ys.map V.str).length ≤ sizeLine := by rw [List.length_map, hlen, sizeLine_eq]; omega
    have hn : H1 t = none := I2.hok.fresh hp
    have J : Inv X pins σ (upd H1 t (.lst (ys.map V.str))) { { s1 with heap := h', toks := tk } with heap := s'.heap, gens := s'.gens, drawn := s'.drawn, toks := s'.toks } :=
      I2.call (ch := []) (Un.laid k hp hn) (I2.hok.laid k hp ⟨hlen2, out.toList, c, vals_of_strs hi, ho⟩) (by rw [g]; exact I2.bare) (fun _ z => nomatch z)
    have e : s' = { { s1 with heap := h', toks := tk } with heap := s'.heap, gens := s'.gens, drawn := s'.drawn, toks := s'.toks } := by
      cases s'
      cases s1
      cases o
      rfl
    rw [e]
    refine ⟨.ref t, _, J, rfl, q1 ys t hs hnd (fun k => ?_) hlen hn⟩
    rw [hmem k, List.take_length]
    exact any_mem xs k
  rcases hq with hq | hq
  · obtain ⟨us, r, pl, hz⟩ := I1.list hq
    exact fin us r (.inl pl.isList)
  · obtain ⟨us, r, pl, hz⟩ := I1.tuple hq
    exact fin us r (.inr pl)
end
end My

namespace My
open PySem PySem.Spec PyProof.Rows L2
section
variable {X : Cx} {o e : Expr} {σ : L2.St} {H : Hp} {Q : VK} {D : Ends} {pos apos : Pos}
/-- o.pop(e), a list -/
theorem e_pop (h : WE X o σ H fun x H1 => (∃ l xs, x = .ref l ∧ SqL X.K H1 l xs) ∧ WE X e σ H1 fun y H2 => ∃ l xs i k z, x = .ref l ∧ y = .int i ∧ H2 l = some (.lst xs) ∧ -(2 ^ 63) ≤ i ∧ i < 2 ^ 63 ∧ seqIndex? i xs.length = some k ∧ xs[k]? = some z ∧ Q z (upd H2 l (.lst (xs.eraseIdx k))))
    (hbase : attributeBase o "pop" X.env (eval o X.env) = eval o X.env := by rfl)
    (hfew : ((backTo pos (starEach [e] X.env)).all (fun x => !x.1) && (backToKw pos (keywordEach [] X.env)).all (fun x => x.1.isSome) && decide ([e].length + ([] : List Keyword).length + (if ([] : List Keyword).isEmpty then 0 else 1) < 30)) = true := by rfl)
    (hline : (apos.endLine == pos.line) = true := by rfl) (hs : starEach [e] X.env = (false, eval e X.env) :: starEach [] X.env := by rfl) (hplain : (backTo pos (starEach [] X.env)).any (·.1) = false := by rfl) :
    WE X (.Call (.Attribute o "pop" apos) [e] [] pos) σ H Q :=
  toE (pe_bm PySem.F.plainAttrs_list PySem.F.slot_list_pop PySem.F.type_list_pop mt_popAt pE pA hbase hfew hline hs hplain) (WE.mono h fun x H1 ⟨⟨l, xs, e1, hS⟩, k⟩ => by
    subst e1
    exact ⟨.inl ⟨rfl, _, hS⟩, a_cons (WE.mono k fun y H2 ⟨l', xs', i, k', z, a1, a2, a3, a4, a5, a6, a7, q⟩ => a_nil ⟨l', xs', i, k', z, a1, by rw [a2], a3, a4, a5, a6, a7, q⟩) hs⟩)
/-- o.append(e) as a statement -/
theorem s_app (h : WE X o σ H fun x H1 => (∃ l xs, x = .ref l ∧ SqL X.K H1 l xs) ∧ WE X e σ H1 fun y H2 => ∃ l xs, x = .ref l ∧ H2 l = some (.lst xs) ∧ xs.length < sizeLine ∧ D.nx σ (upd H2 l (.lst (xs ++ [y])))) {pos' : Pos}
    (hbase : attributeBase o "append" X.env (eval o X.env) = eval o X.env := by rfl)
    (hfew : ((backTo pos (starEach [e] X.env)).all (fun x => !x.1) && (backToKw pos (keywordEach [] X.env)).all (fun x => x.1.isSome) && decide ([e].length + ([] : List Keyword).length + (if ([] : List Keyword).isEmpty then 0 else 1) < 30)) = true := by rfl)
    (hline : (apos.endLine == pos.line) = true := by rfl) (hs : starEach [e] X.env = (false, eval e X.env) :: starEach [] X.env := by rfl) (hplain : (backTo pos (starEach [] X.env)).any (·.1) = false := by rfl)
    (hsw : swapsWith (.Call (.Attribute o "append" apos) [e] [] pos) none pos'.line X.env = pure false := by rfl) :
    WS X (.Expr (.Call (.Attribute o "append" apos) [e] [] pos) pos') D σ H :=
  s_expr (toE (pe_bm PySem.F.plainAttrs_list PySem.F.slot_list_append PySem.F.type_list_append mt_append pE pA hbase hfew hline hs hplain) (WE.mono h fun x H1 ⟨⟨l, xs, e1, hS⟩, k⟩ => by
    subst e1
    exact ⟨.inl ⟨rfl, _, hS⟩, a_cons (WE.mono k fun y H2 ⟨l', xs', a1, a3, a4, q⟩ => a_nil ⟨l', xs', y, a1, rfl, a3, a4, q⟩) hs⟩)) hsw
/-- min(a, b) -/
theorem e_min {a b : Expr} {p : Pos} (hm : X.mg "min" = none) (k : WE X a σ H fun x H1 => WE X b σ H1 fun y H2 => ∃ i j, x = .int i ∧ y = .int j ∧ Q (.int (if j < i then j else i)) H2) (hc : X.calm = true := by rfl) (hg : Gl X "min" := by rfl)
    (he : starEach [a, b] X.env = (false, eval a X.env) :: starEach [b] X.env := by rfl) (he2 : starEach [b] X.env = (false, eval b X.env) :: starEach [] X.env := by rfl) (hpl : (backTo pos (starEach [b] X.env)).any (·.1) = false := by rfl) :
    WE X (.Call (.Name "min" p) [a, b] [] pos) σ H Q :=
  e_callB (call_min2 hc) hm PyProof.Rows.boot_min (a_cons (WE.mono k fun x H1 k1 => a_cons (WE.mono k1 fun y H2 ⟨i, j, e1, e2, q⟩ => a_nil ⟨i, j, by rw [e1, e2], q⟩) he2) he) hg (by decide) (by decide) he hpl
/-- sorted(e), a list of texts; tuple(e), a list -/
theorem e_sorted {p : Pos} (hm : X.mg "sorted" = none) (k : WE X e σ H fun x H1 => ∃ (a : Addr) (xs : List Str), x = V.ref a ∧ SqL X.K H1 a (xs.map V.str) ∧ xs.length < 64 ∧ ∀ (ys : List Str) (p : Addr), ys.Perm xs → sortedS ys = true → H1 p = none → Q (.ref p) (upd H1 p (.lst (ys.map V.str)))) (hg : Gl X "sorted" := by rfl)
    (he : starEach [e] X.env = (false, eval e X.env) :: starEach [] X.env := by rfl) (hpl : (backTo pos (starEach [] X.env)).any (·.1) = false := by rfl) : WE X (.Call (.Name "sorted" p) [e] [] pos) σ H Q :=
  e_callB cr_sortedS hm PyProof.Rows.boot_sorted (a_cons (WE.mono k fun x H1 ⟨a, xs, e1, r⟩ => a_nil ⟨a, xs, by rw [e1], r⟩) he) hg (by decide) (by decide) he hpl
theorem e_tupL {p : Pos} (hm : X.mg "tuple" = none) (k : WE X e σ H fun x H1 => ∃ a xs, x = .ref a ∧ SqL X.K H1 a xs ∧ ∀ q, H1 q = none → Q (.ref q) (upd H1 q (.tup xs))) (hg : Gl X "tuple" := by rfl)
    (he : starEach [e] X.env = (false, eval e X.env) :: starEach [] X.env := by rfl) (hpl : (backTo pos (starEach [] X.env)).any (·.1) = false := by rfl) : WE X (.Call (.Name "tuple" p) [e] [] pos) σ H Q :=
  e_callT call_tuple_of hm PyProof.Rows.boot_tuple (a_cons (WE.mono k fun x H1 ⟨a, xs, e1, hS, r⟩ => a_nil ⟨a, xs, by rw [e1], .inl ⟨hS, r⟩⟩) he) hg (by decide) (by decide) he hpl
theorem e_listL {p : Pos} (hm : X.mg "list" = none) (k : WE X e σ H fun x H1 => ∃ a xs, x = .ref a ∧ (SqL X.K H1 a xs ∨ SqT X.K H1 a xs) ∧ ∀ q, H1 q = none → Q (.ref q) (upd H1 q (.lst xs))) (hg : Gl X "list" := by rfl)
    (he : starEach [e] X.env = (false, eval e X.env) :: starEach [] X.env := by rfl) (hpl : (backTo pos (starEach [] X.env)).any (·.1) = false := by rfl) : WE X (.Call (.Name "list" p) [e] [] pos) σ H Q :=
  e_callT call_list_of hm PyProof.Rows.boot_list (a_cons (WE.mono k fun x H1 ⟨a, xs, e1, hS, r⟩ => a_nil ⟨a, xs, by rw [e1], hS, r⟩) he) hg (by decide) (by decide) he hpl
end
section
variable {X : Cx} {σ : L2.St} {H : Hp} {D : Ends} {pos spos py : Pos} {elt tg iter : Expr} {scope : Scope} {x y : Str}
/-- y = [elt for x in range(a)] as a statement -/
theorem s_lcR {a : Expr} {p pc pt : Pos} (i j : Nat) (hm : X.mg "range" = none) (hN : X.N.Nodup) (ok : BlkOk X.N X.env.scope scope [(x, j)])
    (h : WE X a σ H fun v H1 => ∃ n : Nat, v = .int n ∧ n < 2 ^ 62 ∧ ∀ Dn, H1 Dn = none → ∃ Pv : Nat → Hp → Prop, Pv 0 (upd H1 Dn (.lst [])) ∧
      (∀ i H, i < n → Pv i H → WB X scope elt ((wipe σ [j]).set j (some (.int i))) H fun z H4 => ∃ acc, H4 Dn = some (.lst acc) ∧ acc.length < sizeLine ∧ Pv (i + 1) (upd H4 Dn (.lst (acc ++ [z])))) ∧
      ∀ H, Pv n H → D.nx (σ.set i (some (.ref Dn))) H)
    (hg : ∀ (s : Shared) (H : Hp) (C : Addr) (cl : List (Str × Addr)) (fp : List Addr), PG (X.blk s H scope (compEnvC scope cl C X.env) fp) (.Name x pt) (gName j))
    (hsw : swapsWith (.ListComp elt [⟨.Name x pt, .Call (.Name "range" p) [a] [] pc, [], 0⟩] scope pos) (some (.Name y py)) spos.line X.env = pure true)
    (hy : X.N[i]? = some y := by rfl) (hyl : X.env.scope.names.lookup y = some .local := by rfl)
    (hgl : Gl X "range" := by rfl) (hst : starEach [a] X.env = [(false, eval a X.env)] := by rfl)
    (hc : X.calm = true := by rfl) (hs : ∀ z, foldedSetIterable (.Call (.Name "range" p) [a] [] pc) X.env z = pure z := by intro _; rfl) :
    WS X (.Assign [.Name y py] (.ListComp elt [⟨.Name x pt, .Call (.Name "range" p) [a] [] pc, [], 0⟩] scope pos) spos) D σ H :=
  toS (ps_setLc (own := [(x, j)]) (te := WB X scope elt) hc hN hy hyl hsw (pi_range1 hgl hm (pA (es := [a])) hst) ok hg (fun _ _ _ _ _ => pts_nil) (fun s H0 C cl fp => ⟨fun pins s' σ' H' Q' I q => (q s H0 C cl fp).go pins s' I⟩) hs)
    (a_cons (WE.mono h fun v H1 ⟨n, e, hn, k⟩ => a_nil ⟨(n : Int), by rw [e], by omega, by omega, fun Dn nD => by
      obtain ⟨Pv, p0, ps, pd⟩ := k Dn nD
      have en : ((n : Int)).toNat = n := by omega
      rw [en]
      refine lc_range (g := gName j) (tt := tYes) (te := WB X scope elt) (vs := [j]) (σ := σ) Pv p0 (fun i H hi p => ⟨set_wipe σ j _, ?_⟩) pd
      have e0 : (0 : Int) + (i : Int) = (i : Int) := Int.zero_add _
      rw [e0]
      exact ps i H hi p⟩) (by rw [hst]; rfl))
end
theorem at_map {zs : List Str} {d : Nat} (h : d < zs.length) : atI (zs.map V.str) (d : Int) = some (.str zs[d]) := atI_nat (by rw [List.getElem?_map, List.getElem?_eq_getElem h]; rfl)
theorem at_some {xs : List V} {d : Nat} (h : d < xs.length) : atI xs (d : Int) = some xs[d] := atI_nat (List.getElem?_eq_getElem h)
theorem cut_take (xs : List V) (k : Nat) : cutV xs none (some (k : Int)) = xs.take k := by
  unfold cutV
  rw [HT.sIx_none, HT.sIx_nat, List.drop_zero, Nat.sub_zero]
  by_cases h : k ≤ xs.length
  · rw [Nat.min_eq_left h]
  · rw [Nat.min_eq_right (by omega), List.take_length, List.take_of_length_le (by omega)]
section
variable {X : Cx} {es : List Expr} {σ : L2.St} {H : Hp} {U : List V → Hp → Prop} {pos : Pos}
theorem a_str {z : Str} {j} (h : WA X es σ H fun xs H2 => U (.str z :: xs) H2) : WA X (.Constant (.str z) j pos :: es) σ H U := a_cons (e_str h) rfl
end
section
variable {X : Cx} {e h : Expr} {σ : L2.St} {H : Hp} {Q : VK} {pos p2 : Pos}
/-- e[:k] of a tuple, the whole of it or less -/
theorem e_slK (k : WE X e σ H fun x H1 => WE X h σ H1 fun y H2 => ∃ (i : Nat) (a : Addr) (xs : List V), y = .int i ∧ x = .ref a ∧ H2 a = some (.tup xs) ∧ ∀ q H3, Same H2 H3 → H3 q = some (.tup (xs.take i)) → Q (.ref q) H3) :
    WE X (.Subscript e (.Slice none (some h) none p2) pos) σ H Q :=
  toE (pe_slice sl_tupA pE po_none (po_some pE)) (WE.mono k fun x H1 k1 => WE.mono k1 fun y H2 ⟨i, a, xs, e1, e2, ha, q⟩ => ⟨(i : Int), e1, a, xs, e2, .inl (.inl ha), fun hw => q a H2 (Same.refl _) (by
    have h2 := hw.2
    rw [HT.sIx_nat] at h2
    rw [List.take_of_length_le (by omega)]
    exact ha), fun _ p hp => q p _ (same_new hp) (by rw [upd_same, cut_take])⟩)
end
section
variable {X : Cx} {a b : Expr} {σ : L2.St} {H : Hp} {D : Ends} {pos px py pt pt2 : Pos} {x y : Str} {kt k2 : _}
/-- x, y = a, b -/
theorem s_par (i j : Nat) (h : WA X [a, b] σ H fun vs H1 => ∃ v w, vs = [v, w] ∧ D.nx ((σ.set i (some v)).set j (some w)) H1) (hN : X.N.Nodup) (hij : i ≠ j) (hi : X.N[i]? = some x := by rfl) (hj : X.N[j]? = some y := by rfl)
    (hx : X.env.scope.names.lookup x = some .local := by rfl) (hy : X.env.scope.names.lookup y = some .local := by rfl)
    (hw : swappedStores [.Tuple [.Name x px, .Name y py] kt pt] (.Tuple [a, b] k2 pt2) X.env = pure (some [x, y]) := by rfl)
    (hs : swapsWithSole [.Tuple [.Name x px, .Name y py] kt pt] (.Tuple [a, b] k2 pt2) pos.line X.env = pure false := by rfl) (hc : X.calm = true := by rfl) :
    WS X (.Assign [.Tuple [.Name x px, .Name y py] kt pt] (.Tuple [a, b] k2 pt2) pos) D σ H := toS (ps_par hc hN hi hj hij hx hy pA hw hs) h
end
/-! ### texts: signs, slices, joins -/
def Sm (z : Str) : Prop := ∀ c ∈ z.cps.toList, c < 128
theorem Sm.cat {x y : Str} (hx : Sm x) (hy : Sm y) : Sm (x ++ y) := fun c hc => by
  rw [str_cat] at hc
  rcases List.mem_append.mp hc with h | h
  · exact hx c h
  · exact hy c h
theorem sm_of {z : Str} (h : (z.cps.toList.all fun c => decide (c < 128)) = true) : Sm z := fun c hc => of_decide_eq_true (List.all_eq_true.mp h c hc)
theorem sm_empty : Sm Str.empty := fun c hc => by cases hc
theorem sm_join {y : Str} (hy : Sm y) : ∀ {ps : List Str}, (∀ p ∈ ps, Sm p) → Sm (Txt.join y ps) := by
  intro ps h
  rw [TL.join_eq]
  induction ps with
  | nil => exact sm_empty
  | cons x r ih =>
    cases r with
    | nil => exact h x List.mem_cons_self
    | cons z r => exact ((h x List.mem_cons_self).cat hy).cat (ih fun p hp => h p (List.mem_cons_of_mem _ hp))
theorem sm_cut {z : Str} (h : Sm z) (lo hi : Option Int) : Sm (cutS z lo hi) := fun c hc => by
  have hc' : c ∈ (z.cps.toList.drop (HT.sIx z.length 0 lo)).take (HT.sIx z.length z.length hi - HT.sIx z.length 0 lo) := by
    unfold cutS at hc
    simpa using hc
  exact h c (List.mem_of_mem_drop (List.mem_of_mem_take hc'))
theorem sm_one {z : Str} (h : Sm z) {i : Int} {c : Nat} (e : atI z.cps.toList i = some c) : Sm ⟨#[c]⟩ := fun x hx => by
  have ex : x = c := by simpa using hx
  obtain ⟨j, _, hj⟩ := Option.bind_eq_some_iff.mp (show (ixN z.cps.toList.length i).bind (fun j => z.cps.toList[j]?) = some c from e)
  rw [ex]
  exact h c (List.mem_of_getElem? hj)
theorem shown_str {z : Str} (h : Sm z) (l : z.length ≤ 20000) : (PyData.str z).showable = true ∧ (PyData.str z).depth ≤ 60 ∧ (PyData.str z).shown.length ≤ 10 * z.length + 2 :=
  ⟨rfl, Nat.zero_le _, StrLaws.reprText_len z fun c hc => Nat.lt_of_lt_of_le (h c hc) (by decide)⟩
section
variable {X : Cx} {a b c e l lo hi : Expr} {σ : L2.St} {H : Hp} {Q : VK} {pos p2 apos : Pos}
/-- z[i], z[:k], z[k:] -/
theorem e_ixS (k : WE X a σ H fun x H1 => WE X b σ H1 fun y H2 => ∃ z i c, x = .str z ∧ y = .int i ∧ z.length ≤ sizeLine ∧ atI z.cps.toList i = some c ∧ Q (.str ⟨#[c]⟩) H2) (hs : PlainIx b := by exact fun _ _ => rfl) : WE X (.Subscript a b pos) σ H Q := e_ix ix_str k hs
theorem e_slSto (k : WE X e σ H fun x H1 => WE X hi σ H1 fun y H2 => ∃ i z, y = .int i ∧ x = .str z ∧ z.length ≤ sizeLine ∧ Q (.str (cutS z none (some i))) H2) : WE X (.Subscript e (.Slice none (some hi) none p2) pos) σ H Q :=
  toE (pe_slice sl_str pE po_none (po_some pE)) (WE.mono k fun x H1 k1 => WE.mono k1 fun y H2 ⟨i, z, e1, e2, hz, q⟩ => ⟨i, e1, z, e2, hz, q⟩)
theorem e_slSfrom (k : WE X e σ H fun x H1 => WE X lo σ H1 fun y H2 => ∃ i z, y = .int i ∧ x = .str z ∧ z.length ≤ sizeLine ∧ Q (.str (cutS z (some i) none)) H2) : WE X (.Subscript e (.Slice (some lo) none none p2) pos) σ H Q :=
  toE (pe_slice sl_str pE (po_some pE) po_none) (WE.mono k fun x H1 k1 => WE.mono k1 fun y H2 ⟨i, z, e1, e2, hz, q⟩ => ⟨i, e1, z, e2, hz, q⟩)
theorem e_join {o : Expr} (k : WE X o σ H fun sv H1 => ∃ sep : Str, sv = .str sep ∧ WE X e σ H1 fun v H2 => ∃ p, ∃ ys : List Str, v = .ref p ∧ (SqL X.K H2 p (ys.map V.str) ∨ SqT X.K H2 p (ys.map V.str)) ∧ (ys.map (·.length)).sum + ys.length * sep.length ≤ 16777216 ∧ Q (.str (Txt.join sep ys)) H2)
    (hs : starEach [e] X.env = [(false, eval e X.env)] := by rfl) (hbase : attributeBase o "join" X.env (eval o X.env) = eval o X.env := by rfl) (hline : (apos.endLine == pos.line) = true := by rfl) :
    WE X (.Call (.Attribute o "join" apos) [e] [] pos) σ H Q :=
  toE (pe_join pE pE hs hbase hline) (WE.mono k fun sv H1 ⟨sep, es, k1⟩ => ⟨⟨sep, es⟩, WE.mono k1 fun v H2 ⟨p, ys, ev, hS, hl, q⟩ => ⟨sep, p, ys, es, by rw [ev], hS, hl, q⟩⟩)
end
theorem one_len (c : Nat) : (⟨#[c]⟩ : Str).length = 1 := rfl
theorem join0 : ∀ ps : List Str, (Txt.join Str.empty ps).length = (ps.map (·.length)).sum := fun ps => by
  unfold Txt.join
  rw [size_glued]
  show _ + _ * 0 = _
  omega
end My

namespace My
open PySem PySem.Spec PyProof.Rows L2
/-! ### forms and names: the mirrors -/
abbrev letters : Str := "abcdefghijklmnopqrstuvwxyz"
abbrev resv : List Str := ["select", "distinct", "as", "from", "where", "and", "in"]
def letB (c : Nat) : Bool := decide (c ∈ letters.cps.toList)
def valS (z : Str) : Bool := decide (1 ≤ z.length) && decide (z.length ≤ 8) && z.cps.toList.all letB
def valD : PyData → Bool | .str z => valS z | _ => false
def namD : PyData → Bool | .str z => valS z && !decide (z ∈ resv) | _ => false
def tupD (lo hi : Int) (f : PyData → Bool) : PyData → Bool | .tuple ds => decide (lo ≤ ds.length) && decide ((ds.length : Int) ≤ hi) && ds.all f | _ => false
def strOf : PyData → Str | .str z => z | _ => Str.empty
/-- ascending, no two alike -/
def ascS : List Str → Bool
  | x :: y :: r => decide (x.cps.toList < y.cps.toList) && ascS (y :: r)
  | _ => true
def valsD : PyData → Bool | .tuple ds => decide (1 ≤ ds.length) && decide (ds.length ≤ 8) && ds.all valD && ascS (ds.map strOf) | _ => false
/-! sizes -/
mutual
/-- short texts of small signs, ints that can be shown, no dict but {} -/
def okE : PyData → Bool
  | .str z => decide (z.length ≤ 1000) && z.cps.toList.all fun c => decide (c < 128)
  | .int i => (PyData.int i).showable && decide ((PyData.int i).shown.length ≤ 60) && decide ((PyData.int i).shown.cps.toList.head? ≠ some 39)
  | .tuple ds => okEs ds
  | .list ds => okEs ds
  | .none | .bool _ => true
  | .dict kvs => kvs.isEmpty
def okEs : List PyData → Bool
  | [] => true
  | d :: ds => okE d && okEs ds
end
mutual
def szE : PyData → Nat
  | .str x => 10 * x.length + 5
  | .tuple ds => szEs ds + 5
  | .list ds => szEs ds + 5
  | .int _ => 70
  | .none | .bool _ | .dict _ => 5
def szEs : List PyData → Nat
  | [] => 0
  | d :: ds => szE d + 2 + szEs ds
end
theorem okEs_mem : ∀ {ds : List PyData}, okEs ds = true → ∀ d ∈ ds, okE d = true
  | e :: ds, h, d, hd => by
    have h' : (okE e && okEs ds) = true := h
    rw [Bool.and_eq_true] at h'
    rcases List.mem_cons.mp hd with rfl | hd
    · exact h'.1
    · exact okEs_mem h'.2 d hd
theorem okEs_of : ∀ {ds : List PyData}, (∀ d ∈ ds, okE d = true) → okEs ds = true
  | [], _ => rfl
  | e :: ds, h => by
    show (okE e && okEs ds) = true
    rw [h e List.mem_cons_self, okEs_of fun d hd => h d (List.mem_cons_of_mem _ hd)]
    rfl
theorem szEs_mem : ∀ {ds : List PyData} {d : PyData}, d ∈ ds → szE d + 2 ≤ szEs ds
  | e :: ds, d, hd => by
    show szE d + 2 ≤ szE e + 2 + szEs ds
    rcases List.mem_cons.mp hd with rfl | hd
    · omega
    · have := szEs_mem hd
      omega
theorem szEs_append : ∀ (ds es : List PyData), szEs (ds ++ es) = szEs ds + szEs es
  | [], es => by show szEs es = 0 + szEs es; omega
  | d :: ds, es => by
    show szE d + 2 + szEs (ds ++ es) = szE d + 2 + szEs ds + szEs es
    rw [szEs_append ds es]; omega
theorem len_szEs : ∀ ds : List PyData, ds.length ≤ szEs ds
  | [] => Nat.zero_le _
  | d :: ds => by
    have := len_szEs ds
    show ds.length + 1 ≤ szE d + 2 + szEs ds
    omega
theorem depth_mem : ∀ {ds : List PyData} {d : PyData}, d ∈ ds → d.depth ≤ PyData.depthAll ds
  | e :: ds, d, hd => by
    show d.depth ≤ max (PyData.depth e) (PyData.depthAll ds)
    rcases List.mem_cons.mp hd with rfl | hd
    · exact Nat.le_max_left _ _
    · exact Nat.le_trans (depth_mem hd) (Nat.le_max_right _ _)
mutual
theorem shownE_le : ∀ d : PyData, okE d = true → d.shown.length ≤ szE d
  | .none, _ => by decide
  | .bool true, _ => by decide
  | .bool false, _ => by decide
  | .str x, h => by
    have h' : (decide (x.length ≤ 1000) && x.cps.toList.all fun c => decide (c < 128)) = true := h
    rw [Bool.and_eq_true] at h'
    show (reprText x).length ≤ 10 * x.length + 5
    have := StrLaws.reprText_len x (fun c hc => Nat.lt_of_lt_of_le (of_decide_eq_true (List.all_eq_true.mp h'.2 c hc)) (by decide))
    omega
  | .tuple ds, h => by
    show (tupleText (PyData.shownAll ds)).length ≤ szEs ds + 5
    have h1 := tupleText_len_le (PyData.shownAll ds)
    have h2 := shownEs_le ds h
    omega
  | .list ds, h => by
    show (listText (PyData.shownAll ds)).length ≤ szEs ds + 5
    have h1 := listText_len_le (PyData.shownAll ds)
    have h2 := shownEs_le ds h
    omega
  | .int i, h => by
    have h' : ((PyData.int i).showable && decide ((PyData.int i).shown.length ≤ 60) && decide ((PyData.int i).shown.cps.toList.head? ≠ some 39)) = true := h
    rw [Bool.and_eq_true, Bool.and_eq_true] at h'
    exact Nat.le_trans (of_decide_eq_true h'.1.2) (show (60 : Nat) ≤ 70 by decide)
  | .dict [], _ => by decide
  | .dict (_ :: _), h => by cases h
theorem shownEs_le : ∀ ds : List PyData, okEs ds = true → ((PyData.shownAll ds).map (·.length)).sum + 2 * (PyData.shownAll ds).length ≤ szEs ds
  | [], _ => by decide
  | d :: ds, h => by
    have h' : (okE d && okEs ds) = true := h
    simp only [Bool.and_eq_true] at h'
    have h1 := shownE_le d h'.1
    have h2 := shownEs_le ds h'.2
    show (((PyData.shown d) :: PyData.shownAll ds).map (·.length)).sum + 2 * ((PyData.shown d) :: PyData.shownAll ds).length ≤ szE d + 2 + szEs ds
    rw [List.map_cons, List.sum_cons, List.length_cons]
    omega
end
mutual
theorem showableE : ∀ d : PyData, okE d = true → d.showable = true
  | .none, _ => rfl
  | .bool _, _ => rfl
  | .str _, _ => rfl
  | .tuple ds, h => showablesE ds h
  | .list ds, h => showablesE ds h
  | .int i, h => by
    have h' : ((PyData.int i).showable && decide ((PyData.int i).shown.length ≤ 60) && decide ((PyData.int i).shown.cps.toList.head? ≠ some 39)) = true := h
    rw [Bool.and_eq_true, Bool.and_eq_true] at h'
    exact h'.1.1
  | .dict [], _ => rfl
  | .dict (_ :: _), h => by cases h
theorem showablesE : ∀ ds : List PyData, okEs ds = true → PyData.showableAll ds = true
  | [], _ => rfl
  | d :: ds, h => by
    have h' : (okE d && okEs ds) = true := h
    simp only [Bool.and_eq_true] at h'
    show (PyData.showable d && PyData.showableAll ds) = true
    rw [showableE d h'.1, showablesE ds h'.2]
    rfl
end
/-- data of forms -/
def okS (d : PyData) : Bool := okE d && decide (szE d ≤ 1000000) && decide (d.depth ≤ 50)
theorem okS_iff {d : PyData} : okS d = true ↔ okE d = true ∧ szE d ≤ 1000000 ∧ d.depth ≤ 50 := by
  unfold okS
  rw [Bool.and_eq_true, Bool.and_eq_true, decide_eq_true_eq, decide_eq_true_eq]
  exact ⟨fun ⟨⟨a, b⟩, c⟩ => ⟨a, b, c⟩, fun ⟨a, b, c⟩ => ⟨⟨a, b⟩, c⟩⟩
theorem okS_t {ds : List PyData} (h : okS (.tuple ds) = true) : ∀ d ∈ ds, okS d = true := fun d hd => by
  obtain ⟨h1, h2, h3⟩ := okS_iff.mp h
  have h2' : szEs ds + 5 ≤ 1000000 := h2
  have h3' : PyData.depthAll ds + 1 ≤ 50 := h3
  have := szEs_mem hd
  have := depth_mem hd
  exact okS_iff.mpr ⟨okEs_mem h1 d hd, by omega, by omega⟩
theorem okS_l {ds : List PyData} (h : okS (.list ds) = true) : ∀ d ∈ ds, okS d = true := okS_t h
theorem okS_repr {d : PyData} (h : okS d = true) : d.showable = true ∧ d.depth ≤ 60 ∧ d.shown.length ≤ sizeLine := by
  obtain ⟨h1, h2, h3⟩ := okS_iff.mp h
  exact ⟨showableE d h1, by omega, Nat.le_trans (shownE_le d h1) (Nat.le_trans h2 (by decide))⟩
theorem str_line {z : Str} (h : okS (.str z) = true) : z.length ≤ sizeLine := by
  obtain ⟨h1, _⟩ := okS_iff.mp h
  have h' : (decide (z.length ≤ 1000) && z.cps.toList.all fun c => decide (c < 128)) = true := h1
  rw [Bool.and_eq_true] at h'
  exact Nat.le_trans (of_decide_eq_true h'.1) (by decide)
theorem okS_sm {z : Str} (h : okS (.str z) = true) : Sm z := by
  obtain ⟨h1, _⟩ := okS_iff.mp h
  have h' : (decide (z.length ≤ 1000) && z.cps.toList.all fun c => decide (c < 128)) = true := h1
  rw [Bool.and_eq_true] at h'
  exact sm_of h'.2
def spB (f : PyData → Bool) : Sp := fun vs H Q _ => ∃ S v d, vs = [v] ∧ DG S H v d ∧ okS d = true ∧ ∀ H', Same H H' → Q (.bl (f d)) H'
theorem sqL_same {K : PySem.W.Frag} {H H' : Hp} {a : Addr} {xs : List V} (e : Same H H') (h : SqL K H a xs) : SqL K H' a xs := by
  rcases h with (h | ⟨o, h⟩) | h
  · exact .inl (.inl (e _ _ h))
  · exact .inl (.inr ⟨o, e _ _ h⟩)
  · exact .inr h
/-- a dict of the program's top with text keys, read alone -/
def keyZ (e : DictEntry) : Option Str := match e.key with | .str x _ => some x | _ => none
structure KSt (w : World) (K : PySem.W.Frag) (a : Addr) (zs : List Str) : Prop where
  ex : ∃ es n, KDict K w a es n ∧ es.toList.map keyZ = zs.map some
/-- what the top leaves of the names that forms and names use -/
structure Bf (w : World) (K : PySem.W.Frag) (mg : Str → Option Value) : Prop where
  len : mg "len" = none
  isi : mg "isinstance" = none
  str : mg "str" = none
  tuple : mg "tuple" = none
  all : mg "all" = none
  set : mg "set" = none
  sorted : mg "sorted" = none
  most : ∃ t, mg "MOST_LETTERS" = some (.int 8 t)
  mostV : ∃ t, mg "MOST_VALUES" = some (.int 8 t)
  resv : ∃ a, mg "RESERVED" = some (.ref a) ∧ KSt w K a resv
section
variable {X : Cx} {σ : L2.St} {H : Hp} {Q : VK} {pos p pc : Pos} {elt iter : Expr} {scope : Scope} {x : Str}
/-- all([f(x) for x in a tuple]) -/
theorem e_allT {pt : Pos} (j : Nat) (f : PyData → Bool) (hm : X.mg "all" = none) (hN : X.N.Nodup) (okb : BlkOk X.N X.env.scope scope [(x, j)])
    (h : WE X iter σ H fun v H1 => ∃ S ds a xs, v = .ref a ∧ H1 a = some (.tup xs) ∧ DGs S H1 xs ds ∧ ds.length ≤ 1000 ∧
      (∀ d ∈ ds, ∀ u H2, Same H1 H2 → DG S H2 u d → WB X scope elt ((wipe σ [j]).set j (some u)) H2 fun y H3 => y = .bl (f d) ∧ Same H2 H3) ∧ ∀ H2, Same H1 H2 → Q (.bl (ds.all f)) H2)
    (hg : ∀ (s : Shared) (H : Hp) (C : Addr) (cl : List (Str × Addr)) (fp : List Addr), PG (X.blk s H scope (compEnvC scope cl C X.env) fp) (.Name x pt) (gName j))
    (hgl : Gl X "all" := by rfl) (hc : X.calm = true := by rfl) (hs : ∀ z, foldedSetIterable iter X.env z = pure z := by intro _; rfl)
    (he : starEach [.ListComp elt [⟨.Name x pt, iter, [], 0⟩] scope pc] X.env = (false, eval (.ListComp elt [⟨.Name x pt, iter, [], 0⟩] scope pc) X.env) :: starEach [] X.env := by rfl)
    (hpl : (backTo pos (starEach [] X.env)).any (·.1) = false := by rfl) :
    WE X (.Call (.Name "all" p) [.ListComp elt [⟨.Name x pt, iter, [], 0⟩] scope pc] [] pos) σ H Q := by
  refine e_callB (cr_all hc) hm (by decide +kernel) (a_cons ?_ he) hgl (by decide) (by decide) he hpl
  refine e_lcT j hN okb (WE.mono h fun v H1 ⟨S, ds, a, xs, e, ha, hds, h1000, hel, q⟩ => ⟨a, xs, e, .inl (.inl ha), fun D nD => ?_⟩) hg hc hs
  have lx := hds.length
  refine ⟨fun i H' => Same H1 H' ∧ H' D = some (.lst (((ds.take i).map f).map V.bl)), ⟨same_new nD, upd_same⟩, fun i H' hi p => .inl (.inl (p.1 _ _ ha)), fun i y H' hi p => ?_, fun H' p => a_nil ⟨D, (ds.take xs.length).map f, rfl, .inl (.inl p.2), ?_⟩⟩
  · obtain ⟨d, hd, hy⟩ := hds.get hi
    intro s0 H00 C cl fp
    refine WE.mono (hel d (List.mem_of_getElem? hd) y H' p.1 (hy.same p.1) s0 H00 C cl fp) fun z H4 ⟨ez, s4⟩ => ?_
    subst ez
    have lt : i < ds.length := (List.getElem?_eq_some_iff.mp hd).1
    refine ⟨_, s4 _ _ p.2, ?_, same_mut (p.1.trans s4) nD, ?_⟩
    · rw [List.length_map, List.length_map, List.length_take]
      exact Nat.lt_of_lt_of_le (show min i ds.length < 1001 by omega) (by decide)
    · rw [upd_same, List.take_succ_eq_append_getElem lt]
      have e : ds[i] = d := by rw [List.getElem?_eq_getElem lt] at hd; exact Option.some.inj hd
      rw [e, List.map_append, List.map_append]
      rfl
  · rw [lx, List.take_length, List.all_map]
    exact q H' p.1
/-- all([f(c) for c in a text]) -/
theorem e_allS {pt : Pos} (j : Nat) (f : Nat → Bool) (hm : X.mg "all" = none) (hN : X.N.Nodup) (okb : BlkOk X.N X.env.scope scope [(x, j)])
    (h : WE X iter σ H fun v H1 => ∃ z : Str, v = .str z ∧ z.length ≤ 1000 ∧
      (∀ c ∈ z.cps.toList, ∀ H2, Same H1 H2 → WB X scope elt ((wipe σ [j]).set j (some (.str ⟨#[c]⟩))) H2 fun y H3 => y = .bl (f c) ∧ Same H2 H3) ∧ ∀ H2, Same H1 H2 → Q (.bl (z.cps.toList.all f)) H2)
    (hg : ∀ (s : Shared) (H : Hp) (C : Addr) (cl : List (Str × Addr)) (fp : List Addr), PG (X.blk s H scope (compEnvC scope cl C X.env) fp) (.Name x pt) (gName j))
    (hgl : Gl X "all" := by rfl) (hc : X.calm = true := by rfl) (hs : ∀ z, foldedSetIterable iter X.env z = pure z := by intro _; rfl)
    (he : starEach [.ListComp elt [⟨.Name x pt, iter, [], 0⟩] scope pc] X.env = (false, eval (.ListComp elt [⟨.Name x pt, iter, [], 0⟩] scope pc) X.env) :: starEach [] X.env := by rfl)
    (hpl : (backTo pos (starEach [] X.env)).any (·.1) = false := by rfl) :
    WE X (.Call (.Name "all" p) [.ListComp elt [⟨.Name x pt, iter, [], 0⟩] scope pc] [] pos) σ H Q := by
  refine e_callB (cr_all hc) hm (by decide +kernel) (a_cons ?_ he) hgl (by decide) (by decide) he hpl
  refine e_lcS j hN okb (WE.mono h fun v H1 ⟨z, e, hz, hel, q⟩ => ⟨z, e, fun D nD => ?_⟩) hg hc hs
  have hz' : z.cps.toList.length ≤ 1000 := by rw [Array.length_toList]; exact hz
  refine ⟨fun i H' => Same H1 H' ∧ H' D = some (.lst (((z.cps.toList.take i).map f).map V.bl)), ⟨same_new nD, upd_same⟩, fun i c H' hi p => ?_, fun H' p => a_nil ⟨D, (z.cps.toList.take z.cps.size).map f, rfl, .inl (.inl p.2), ?_⟩⟩
  · have hi' : z.cps.toList[i]? = some c := by rw [Array.getElem?_toList]; exact hi
    intro s0 H00 C cl fp
    refine WE.mono (hel c (List.mem_of_getElem? hi') H' p.1 s0 H00 C cl fp) fun u H4 ⟨eu, s4⟩ => ?_
    subst eu
    have lt : i < z.cps.toList.length := (List.getElem?_eq_some_iff.mp hi').1
    refine ⟨_, s4 _ _ p.2, ?_, same_mut (p.1.trans s4) nD, ?_⟩
    · rw [List.length_map, List.length_map, List.length_take]
      exact Nat.lt_of_lt_of_le (show min i z.cps.toList.length < 1001 by omega) (by decide)
    · rw [upd_same, List.take_succ_eq_append_getElem lt]
      have e : z.cps.toList[i] = c := by rw [List.getElem?_eq_getElem lt] at hi'; exact Option.some.inj hi'
      rw [e, List.map_append, List.map_append]
      rfl
  · have e : z.cps.size = z.cps.toList.length := by rw [Array.length_toList]
    rw [e, List.take_length, List.all_map]
    exact q H' p.1
end
section
variable {P : Program} {w : World} {K : PySem.W.Frag} {mg : Str → Option Value} {base : Heap}
/-- the def at g says f of any object -/
structure Says (P : Program) (w : World) (K : PySem.W.Frag) (mg : Str → Option Value) (base : Heap) (k : Nat) (g : Addr) (f : PyData → Bool) : Prop where
  ex : ∃ (fd : FuncData) (ps : List Str), FnOk P w K mg base CX0 k g fd ps (spB f) ∧ PySem.W.keepIn K (.ref g) = true ∧ Binds K fd ps []
def spTO (P : Program) (w : World) (K : PySem.W.Frag) (mg : Str → Option Value) (base : Heap) (k : Nat) : Sp := fun vs H Q _ => ∃ S v d lo hi g f, vs = [v, .int lo, .int hi, .ref g] ∧ Says P w K mg base k g f ∧ hi ≤ 1000 ∧ DG S H v d ∧ okS d = true ∧ ∀ H', Same H H' → Q (.bl (tupD lo hi f d)) H'
end
/-! ### ascending texts -/
abbrev lt (a b : Str) : Prop := a.cps.toList < b.cps.toList
theorem lt_tri {a b : Str} (h : ¬ lt a b) (k : ¬ lt b a) : a = b := str_ext (List.le_antisymm k h)
theorem lt_trans {a b c : Str} (h : lt a b) (k : lt b c) : lt a c := List.lt_trans h k
theorem lt_irr (a : Str) : ¬ lt a a := List.lt_irrefl _
theorem le_trans {a b c : Str} (h : ¬ lt b a) (k : ¬ lt c b) : ¬ lt c a := fun z => by
  by_cases e : a = b
  · subst e; exact k z
  · have : lt a b := by
      by_cases q : lt a b
      · exact q
      · exact absurd (lt_tri q h) e
    exact k (lt_trans z this)
theorem asc_iff : ∀ zs : List Str, ascS zs = true ↔ zs.Pairwise lt
  | [] => by simp [ascS]
  | [x] => by simp [ascS]
  | x :: y :: r => by
    have ih := asc_iff (y :: r)
    show (decide (lt x y) && ascS (y :: r)) = true ↔ _
    rw [Bool.and_eq_true, decide_eq_true_eq, ih, List.pairwise_cons (a := x)]
    constructor
    · rintro ⟨h, k⟩
      refine ⟨fun z hz => ?_, k⟩
      rcases List.mem_cons.mp hz with rfl | hz
      · exact h
      · exact lt_trans h ((List.pairwise_cons.mp k).1 z hz)
    · rintro ⟨h, k⟩
      exact ⟨h y List.mem_cons_self, k⟩
theorem sorted_pw : ∀ (ys : List Str) (x : Str), risingS x ys = true → (x :: ys).Pairwise fun a b => ¬ lt b a
  | [], x, _ => by simp
  | y :: ys, x, h => by
    have h' : (!ltCps y.cps.toList x.cps.toList && risingS y ys) = true := h
    rw [Bool.and_eq_true, ltCps_eq] at h'
    have h1 : ¬ lt y x := by simpa using h'.1
    have ih := sorted_pw ys y h'.2
    refine List.pairwise_cons.mpr ⟨fun z hz => ?_, ih⟩
    rcases List.mem_cons.mp hz with rfl | hz
    · exact h1
    · exact le_trans h1 ((List.pairwise_cons.mp ih).1 z hz)
theorem sortedS_pw {ys : List Str} (h : sortedS ys = true) : ys.Pairwise fun a b => ¬ lt b a := by
  cases ys with
  | nil => exact .nil
  | cons y ys => exact sorted_pw ys y h
theorem asc_eq {zs ys : List Str} (hp : ys.Perm zs) (hs : sortedS ys = true) : (decide (zs = ys) && decide zs.Nodup) = ascS zs := by
  have pw := sortedS_pw hs
  apply Bool.eq_iff_iff.mpr
  rw [Bool.and_eq_true, decide_eq_true_eq, decide_eq_true_eq, asc_iff]
  constructor
  · rintro ⟨e, n⟩
    subst e
    refine (pw.and n).imp fun {a b} ⟨h1, h2⟩ => ?_
    by_cases q : lt a b
    · exact q
    · exact absurd (lt_tri q h1) h2
  · intro h
    have pw2 : zs.Pairwise fun a b => ¬ lt b a := h.imp fun {a b} h1 h2 => lt_irr a (lt_trans h1 h2)
    exact ⟨List.Perm.eq_of_pairwise (fun a b _ _ h1 h2 => lt_tri h2 h1) pw2 pw hp.symm, h.imp (S := fun a b => a ≠ b) fun {a b} h1 h2 => lt_irr a (by rw [← h2] at h1; exact h1)⟩
theorem eqv_strs : ∀ (zs ys : List Str), PyData.eqvAll (zs.map PyData.str) (ys.map PyData.str) = decide (zs = ys)
  | [], [] => rfl
  | [], y :: ys => rfl
  | z :: zs, [] => rfl
  | z :: zs, y :: ys => by
    show ((z == y) && PyData.eqvAll (zs.map PyData.str) (ys.map PyData.str)) = _
    rw [eqv_strs zs ys]
    apply Bool.eq_iff_iff.mpr
    simp
/-! ### data that are texts -/
theorem strs_of {S : Addr → Prop} {H : Hp} : ∀ {xs : List V} {ds : List PyData}, DGs S H xs ds → ds.all valD = true → ds = (ds.map strOf).map PyData.str ∧ xs = (ds.map strOf).map V.str ∧ (ds.map strOf).all valS = true
  | _, _, .nil, _ => ⟨rfl, rfl, rfl⟩
  | _, _, .cons (d := d) h hs, e => by
    have e' : (valD d && _) = true := e
    rw [Bool.and_eq_true] at e'
    obtain ⟨h1, h2, h3⟩ := strs_of hs e'.2
    cases h with
    | str z => exact ⟨by rw [List.map_cons, List.map_cons]; exact congrArg _ h1, by rw [List.map_cons, List.map_cons]; exact congrArg _ h2, by rw [List.map_cons, List.all_cons, h3, Bool.and_true]; exact e'.1⟩
    | _ => exact absurd e'.1 (by simp [valD])
theorem let_small : ∀ c, letB c = true → c < 128 := fun c h => by
  have h' : c ∈ letters.cps.toList := of_decide_eq_true h
  have : ∀ x ∈ letters.cps.toList, x < 128 := by decide +kernel
  exact this c h'
theorem val_small {z : Str} (h : valS z = true) : z.length ≤ 8 ∧ ∀ c ∈ z.cps.toList, c < 128 := by
  unfold valS at h
  simp only [Bool.and_eq_true, decide_eq_true_eq, List.all_eq_true] at h
  exact ⟨h.1.2, fun c hc => let_small c (h.2 c hc)⟩
theorem lay_strs : ∀ {zs : List Str}, zs.all valS = true → PyData.canLayAll0 (zs.map PyData.str) = true
  | [], _ => rfl
  | z :: zs, h => by
    rw [List.all_cons, Bool.and_eq_true] at h
    show (PyData.canLay0 (.str z) && PyData.canLayAll0 (zs.map PyData.str)) = true
    rw [lay_strs h.2, Bool.and_true]
    show (z.cps.all fun c => decide (c < 0x110000)) = true
    rw [← Array.all_toList, List.all_eq_true]
    exact fun c hc => decide_eq_true (Nat.lt_of_lt_of_le ((val_small h.1).2 c hc) (by decide))
theorem depth_strs : ∀ zs : List Str, PyData.depthAll (zs.map PyData.str) = 0
  | [] => rfl
  | z :: zs => by show max 0 (PyData.depthAll (zs.map PyData.str)) = 0; rw [depth_strs zs]; rfl
theorem shaped_strs {zs : List Str} (h : zs.all valS = true) : SeqAt.shaped (.tuple (zs.map PyData.str)) = true := by
  show (PyData.canLayAll0 (zs.map PyData.str) && decide (PyData.depthAll (zs.map PyData.str) + 1 ≤ 64)) = true
  rw [lay_strs h, depth_strs]
  rfl
theorem dps_strs {K : PySem.W.Frag} {H : Hp} : ∀ zs : List Str, DpAll K H (zs.map V.str) (zs.map PyData.str)
  | [] => .nil
  | z :: zs => .cons (.str z) (dps_strs zs)
theorem inV_strs (z : Str) : ∀ zs : List Str, inV (.str z) (zs.map V.str) = decide (z ∈ zs)
  | [] => rfl
  | y :: zs => by
    show ((y == z) || inV (.str z) (zs.map V.str)) = _
    rw [inV_strs z zs]
    apply Bool.eq_iff_iff.mpr
    simp only [Bool.or_eq_true, beq_iff_eq, decide_eq_true_eq, List.mem_cons]
    exact ⟨fun h => h.elim (fun e => .inl e.symm) .inr, fun h => h.elim (fun e => .inl e.symm) .inr⟩
theorem flat_strs' : ∀ zs : List Str, (zs.map V.str).all flatV = true
  | [] => rfl
  | z :: zs => by show (true && (zs.map V.str).all flatV) = true; rw [flat_strs' zs]; rfl
def spDiff (K : PySem.W.Frag) : Sp := fun vs H Q _ => ∃ a, ∃ xs : List Str, vs = [.ref a] ∧ (SqL K H a (xs.map V.str) ∨ SqT K H a (xs.map V.str)) ∧ xs.length ≤ 1000 ∧ Q (.bl (decide xs.Nodup)) H
theorem letters_are : letters.cps.toList = List.range' 97 26 := by decide +kernel
theorem one_lt (a b : Nat) : ([a] : List Nat) < [b] ↔ a < b := by
  constructor
  · intro h
    rcases List.cons_lt_cons_iff.mp h with h | ⟨_, h⟩
    · exact h
    · exact absurd h (List.lt_irrefl _)
  · exact fun h => List.cons_lt_cons_iff.mpr (.inl h)
theorem let_btw (c : Nat) : letB c = (!decide (([c] : List Nat) < [97]) && !decide (([122] : List Nat) < [c])) := by
  unfold letB
  rw [letters_are]
  apply Bool.eq_iff_iff.mpr
  rw [decide_eq_true_eq, List.mem_range'_1, Bool.and_eq_true, Bool.not_eq_true', Bool.not_eq_true', decide_eq_false_iff_not, decide_eq_false_iff_not, one_lt, one_lt]
  omega
theorem asc_range : ∀ zs : List Str, ascS zs = (List.range (zs.length - 1)).all fun k => decide (lt (zs.getD k Str.empty) (zs.getD (k + 1) Str.empty))
  | [] => rfl
  | [x] => rfl
  | x :: y :: r => by
    have ih := asc_range (y :: r)
    show (decide (lt x y) && ascS (y :: r)) = (List.range (r.length + 1)).all _
    rw [ih, List.range_succ_eq_map, List.all_cons, List.all_map]
    rfl
section
variable {X : Cx} {a b c e : Expr} {σ : L2.St} {H : Hp} {Q : VK} {pos p pc pr pcr : Pos} {elt : Expr} {scope : Scope} {x : Str}
/-- x <= e <= y, texts -/
theorem e_btwS (k : WE X a σ H fun x H1 => WE X b σ H1 fun y H2 => ∃ i j, x = .str i ∧ y = .str j ∧ (¬ j.cps.toList < i.cps.toList → WE X c σ H2 fun z H3 => ∃ m, z = .str m ∧ Q (.bl (!decide (m.cps.toList < j.cps.toList))) H3) ∧ (j.cps.toList < i.cps.toList → Q (.bl false) H2))
    (hm : lastMarks [.LtE, .LtE] [b, c] = false := by with_unfolding_all rfl) : WE X (.Compare a [.LtE, .LtE] [b, c] pos) σ H Q :=
  e_chain op_le_str op_le_str (WE.mono k fun x H1 k1 => WE.mono k1 fun y H2 ⟨i, j, e1, e2, h1, h2⟩ => ⟨i, j, e1, e2, !decide (j.cps.toList < i.cps.toList), rfl, by
    by_cases hij : j.cps.toList < i.cps.toList
    · rw [decide_eq_true hij]
      exact h2 hij
    · rw [decide_eq_false hij]
      exact WE.mono (h1 hij) fun z H3 ⟨m, e3, r⟩ => ⟨j, m, e2, e3, r⟩⟩) hm
/-- all([f(k) for k in range(n)]) -/
theorem e_allR {pt : Pos} (j : Nat) (f : Nat → Bool) (hm : X.mg "all" = none) (hr : X.mg "range" = none) (hN : X.N.Nodup) (okb : BlkOk X.N X.env.scope scope [(x, j)])
    (h : WE X a σ H fun v H1 => ∃ n : Nat, v = .int n ∧ n ≤ 1000 ∧ (∀ i, i < n → ∀ H2, Same H1 H2 → WB X scope elt ((wipe σ [j]).set j (some (.int i))) H2 fun y H3 => y = .bl (f i) ∧ Same H2 H3) ∧ ∀ H2, Same H1 H2 → Q (.bl ((List.range n).all f)) H2)
    (hg : ∀ (s : Shared) (H : Hp) (C : Addr) (cl : List (Str × Addr)) (fp : List Addr), PG (X.blk s H scope (compEnvC scope cl C X.env) fp) (.Name x pt) (gName j))
    (hgl : Gl X "all" := by rfl) (hgr : Gl X "range" := by rfl) (hst : starEach [a] X.env = [(false, eval a X.env)] := by rfl) (hc : X.calm = true := by rfl) (hs : ∀ z, foldedSetIterable (.Call (.Name "range" pr) [a] [] pcr) X.env z = pure z := by intro _; rfl)
    (he : starEach [.ListComp elt [⟨.Name x pt, .Call (.Name "range" pr) [a] [] pcr, [], 0⟩] scope pc] X.env = (false, eval (.ListComp elt [⟨.Name x pt, .Call (.Name "range" pr) [a] [] pcr, [], 0⟩] scope pc) X.env) :: starEach [] X.env := by rfl)
    (hpl : (backTo pos (starEach [] X.env)).any (·.1) = false := by rfl) :
    WE X (.Call (.Name "all" p) [.ListComp elt [⟨.Name x pt, .Call (.Name "range" pr) [a] [] pcr, [], 0⟩] scope pc] [] pos) σ H Q := by
  refine e_callB (cr_all hc) hm (by decide +kernel) (a_cons ?_ he) hgl (by decide) (by decide) he hpl
  refine e_lcR j hr hN okb (WE.mono h fun v H1 ⟨n, e, hn, hel, q⟩ => ⟨n, e, by omega, fun D nD => ?_⟩) hg hgr hst hc hs
  refine ⟨fun i H' => Same H1 H' ∧ H' D = some (.lst (((List.range i).map f).map V.bl)), ⟨same_new nD, upd_same⟩, fun i H' hi p => ?_, fun H' p => a_nil ⟨D, (List.range n).map f, rfl, .inl (.inl p.2), ?_⟩⟩
  · intro s0 H00 C cl fp
    refine WE.mono (hel i hi H' p.1 s0 H00 C cl fp) fun u H4 ⟨eu, s4⟩ => ?_
    subst eu
    refine ⟨_, s4 _ _ p.2, ?_, same_mut (p.1.trans s4) nD, ?_⟩
    · rw [List.length_map, List.length_map, List.length_range]
      exact Nat.lt_of_lt_of_le (show i < 1001 by omega) (by decide)
    · rw [upd_same, List.range_succ, List.map_append, List.map_append]
      rfl
  · rw [List.all_map]
    exact q H' p.1
end
def wd (z : Str) : Prop := z.length ≤ 60 ∧ Sm z
def wdB (z : Str) : Bool := decide (z.length ≤ 14) && z.cps.toList.all fun c => decide (c < 128)
theorem wd_of {z : Str} (h : wdB z = true) : z.length ≤ 14 ∧ Sm z := by
  unfold wdB at h
  rw [Bool.and_eq_true] at h
  exact ⟨of_decide_eq_true h.1, sm_of h.2⟩
theorem wds_of {zs : List Str} (h : zs.all wdB = true) : ∀ z ∈ zs, z.length ≤ 14 ∧ Sm z := fun z hz => wd_of (List.all_eq_true.mp h z hz)
end My

namespace My
open PySem PySem.Spec PyProof.Rows L2
/-! ### the pure layer: what an expression gives of data, and nothing else changes -/
abbrev Rho := List (Option PyData)
structure SL (S : Addr → Prop) (H : Hp) (σ : L2.St) (ρ : Rho) : Prop where
  dom : ∀ a, S a → H a ≠ none
  look : ∀ (i : Nat) (d : PyData), ρ[i]? = some (some d) → ∃ v, σ[i]? = some (some v) ∧ DG S H v d
  len : σ.length = ρ.length
section
variable {S : Addr → Prop} {H H' : Hp} {σ : L2.St} {ρ : Rho} {i : Nat} {v : V} {d : PyData}
theorem SL.same (h : SL S H σ ρ) (e : Same H H') : SL S H' σ ρ := ⟨in_same e h.dom, fun i d q => let ⟨v, a, b⟩ := h.look i d q; ⟨v, a, b.same e⟩, h.len⟩
theorem SL.set (h : SL S H σ ρ) (hv : DG S H v d) : SL S H (σ.set i (some v)) (ρ.set i (some d)) := by
  refine ⟨h.dom, fun j e q => ?_, by rw [List.length_set, List.length_set]; exact h.len⟩
  by_cases ij : i = j
  · subst ij
    by_cases lt : i < ρ.length
    · rw [List.getElem?_set_self lt] at q
      cases q
      exact ⟨v, List.getElem?_set_self (by rw [h.len]; exact lt), hv⟩
    · rw [List.getElem?_eq_none (by rw [List.length_set]; omega)] at q
      cases q
  · rw [List.getElem?_set_ne ij] at q
    obtain ⟨u, a, b⟩ := h.look j e q
    exact ⟨u, by rw [List.getElem?_set_ne ij]; exact a, b⟩
theorem SL.wipe (h : SL S H σ ρ) : SL S H (L2.wipe σ [i]) (ρ.set i none) := by
  show SL S H (σ.set i none) (ρ.set i none)
  refine ⟨h.dom, fun j e q => ?_, by rw [List.length_set, List.length_set]; exact h.len⟩
  by_cases ij : i = j
  · subst ij
    by_cases lt : i < ρ.length
    · rw [List.getElem?_set_self lt] at q; cases q
    · rw [List.getElem?_eq_none (by rw [List.length_set]; omega)] at q; cases q
  · rw [List.getElem?_set_ne ij] at q
    obtain ⟨u, a, b⟩ := h.look j e q
    exact ⟨u, by rw [List.getElem?_set_ne ij]; exact a, b⟩
/-- a new object at p that is still written to -/
abbrev And1 (S : Addr → Prop) (p : Addr) : Addr → Prop := fun a => S a ∨ a = p
theorem DG.and1 {o : HO} {p : Addr} (hp : H p = none) (h : DG S H v d) : DG (And1 S p) (L2.upd H p o) v d :=
  h.mono (My.Same.tups (same_new hp)) fun a u n e => ⟨fun z => z.elim n fun z => (by rw [z, hp] at e; cases e), by rw [upd_ne (ne_of_none e hp)]; exact e⟩
theorem SL.and1 {o : HO} {p : Addr} (hp : H p = none) (h : SL S H σ ρ) : SL (And1 S p) (L2.upd H p o) σ ρ :=
  ⟨fun a z => z.elim (fun z => in_same (same_new hp) h.dom a z) fun z w => (by rw [z, upd_same] at w; cases w), fun i d q => let ⟨v, a, b⟩ := h.look i d q; ⟨v, a, b.and1 hp⟩, h.len⟩
theorem DGs.un1 {p : Addr} {vs : List V} {ds : List PyData} (h : DGs (And1 S p) H vs ds) : DGs S H vs ds := h.mono (Tup.refl _) fun a o n e => ⟨fun z => n (.inl z), e⟩
theorem DGs.put {p : Addr} {xs ys : List V} {vs : List V} {ds : List PyData} (hp : H p = some (.lst xs)) (h : DGs (And1 S p) H vs ds) : DGs (And1 S p) (L2.upd H p (.lst ys)) vs ds :=
  h.mono (Tup.set hp) fun a o n e => ⟨n, by rw [upd_ne fun z => n (.inr z)]; exact e⟩
end
section
variable (X : Cx) (ρ : Rho)
def ED (e : Expr) (d : PyData) : Prop := ∀ (S : Addr → Prop) (σ : L2.St) (H : Hp) (Q : VK), SL S H σ ρ → (∀ v H', Same H H' → DG S H' v d → Q v H') → WE X e σ H Q
def TD (e : Expr) (b : Bool) : Prop := ∀ (S : Addr → Prop) (σ : L2.St) (H : Hp) (R : Bool → Hp → Prop), SL S H σ ρ → (∀ H', Same H H' → R b H') → WT X e σ H R
def WD (e : Expr) (b : Bool) : Prop := ∀ (S : Addr → Prop) (σ : L2.St) (H : Hp) (R : Bool → Hp → Prop), SL S H σ ρ → (∀ H', Same H H' → R b H') → WW X e σ H R
def AD (es : List Expr) (ds : List PyData) : Prop := ∀ (S : Addr → Prop) (σ : L2.St) (H : Hp) (U : List V → Hp → Prop), SL S H σ ρ → (∀ vs H', Same H H' → DGs S H' vs ds → U vs H') → WA X es σ H U
end
inductive Out | ret (d : PyData) | nx (ρ : Rho)
def Out.Is (S : Addr → Prop) (H : Hp) (D : Ends) : Out → Prop
  | .ret d => ∀ v H', Same H H' → DG S H' v d → D.rt v H'
  | .nx ρ' => ∀ σ' H', Same H H' → SL S H' σ' ρ' → D.nx σ' H'
def SD (X : Cx) (ρ : Rho) (st : Stmt) (o : Out) : Prop := ∀ (S : Addr → Prop) (σ : L2.St) (H : Hp) (D : Ends), SL S H σ ρ → o.Is S H D → WS X st D σ H
def LD (X : Cx) (ρ : Rho) (l : List Stmt) (o : Out) : Prop := ∀ (S : Addr → Prop) (σ : L2.St) (H : Hp) (D : Ends), SL S H σ ρ → o.Is S H D → WL X l D σ H
/-- the block of a comprehension -/
def BD (X : Cx) (scope : Scope) (ρ : Rho) (e : Expr) (d : PyData) : Prop := ∀ (s : Shared) (H0 : Hp) (C : Addr) (cl : List (Str × Addr)) (fp : List Addr), ED (X.blk s H0 scope (compEnvC scope cl C X.env) fp) ρ e d
section
variable {X : Cx} {ρ : Rho} {a b c e : Expr} {es rest : List Expr} {d d1 d2 : PyData} {ds : List PyData} {pos p p2 p3 pc pt : Pos} {x : Str} {k m : Bool}
theorem d_var (i : Nat) (h : ρ[i]? = some (some d) := by rfl) (hN : X.N[i]? = some x := by rfl) (hv : Vis X.env.scope x := by first | exact Or.inl rfl | exact Or.inr (Or.inl rfl) | exact Or.inr (Or.inr rfl))
    (hd : (x == ("__debug__" : Str)) = false := by decide) (hcd : (x == ("__classdict__" : Str)) = false := by decide) : ED X ρ (.Name x pos) d := fun S σ H Q sl q => by
  obtain ⟨v, e, g⟩ := sl.look i d h
  exact e_var i e (q v H (Same.refl _) g) hN hv hd hcd
theorem d_lit (h : Lit e d) : ED X ρ e d := fun S σ H Q sl q => e_lit h sl.dom q
theorem d_bl {j} (b : Bool) : ED X ρ (.Constant (.bool b) j pos) (.bool b) := d_lit (.bl b)
theorem d_int {j} (i : Int) : ED X ρ (.Constant (.int i) j pos) (.int i) := d_lit (.int i)
theorem d_str {j} (z : Str) : ED X ρ (.Constant (.str z) j pos) (.str z) := d_lit (.str z)
theorem d_non {j} : ED X ρ (.Constant .none j pos) .none := d_lit .non
theorem d_gint {i : Int} (hm : ∃ t, X.mg x = some (.int i t)) (hg : Gl X x := by rfl) (hd : (x == ("__debug__" : Str)) = false := by decide) : ED X ρ (.Name x pos) (.int i) := fun S σ H Q sl q => by
  obtain ⟨t, h⟩ := hm
  exact e_glob (v := .int i) h ⟨_, rfl⟩ (q _ H (Same.refl _) (.int i)) hg hd
theorem d_gstr {z : Str} (hm : ∃ t, X.mg x = some (.str z t)) (hg : Gl X x := by rfl) (hd : (x == ("__debug__" : Str)) = false := by decide) : ED X ρ (.Name x pos) (.str z) := fun S σ H Q sl q => by
  obtain ⟨t, h⟩ := hm
  exact e_glob (v := .str z) h ⟨_, rfl⟩ (q _ H (Same.refl _) (.str z)) hg hd
theorem ad_nil : AD X ρ [] [] := fun S σ H U sl q => a_nil (q [] H (Same.refl _) .nil)
theorem ad_cons (h : ED X ρ e d) (hs : AD X ρ es ds) (he : starEach (e :: es) X.env = (false, eval e X.env) :: starEach es X.env := by rfl) : AD X ρ (e :: es) (d :: ds) := fun S σ H U sl q =>
  a_cons (h S σ H _ sl fun v H1 s1 g1 => hs S σ H1 _ (sl.same s1) fun vs H2 s2 g2 => q (v :: vs) H2 (s1.trans s2) (.cons (g1.same s2) g2)) he
theorem d_tup {kk} (h : AD X ρ es ds) (l : ds.length ≤ 1000) : ED X ρ (.Tuple es kk pos) (.tuple ds) := fun S σ H Q sl q =>
  e_tup (h S σ H _ sl fun vs H1 s1 g1 => ⟨by rw [g1.length]; exact Nat.le_trans l (by decide), fun p hp => q _ _ (s1.trans (same_new hp)) (.tup upd_same (g1.same (same_new hp)))⟩)
theorem d_lst (h : AD X ρ es ds) (l : ds.length ≤ 1000) : ED X ρ (.List es pos) (.list ds) := fun S σ H Q sl q =>
  e_lst (h S σ H _ sl fun vs H1 s1 g1 => ⟨by rw [g1.length]; exact Nat.le_trans l (by decide), fun p hp => q _ _ (s1.trans (same_new hp)) (.lst upd_same (fun z => in_same s1 sl.dom p z hp) (g1.same (same_new hp)))⟩)
/-! and, or, not, if -/
theorem d_and {r : PyData} (h : ED X ρ a (.bool k)) (h1 : k = true → ED X ρ (.BoolOp .And (b :: rest) pos) (.bool m)) : ED X ρ (.BoolOp .And (a :: b :: rest) pos) (.bool (k && m)) := fun S σ H Q sl q =>
  e_and (h S σ H _ sl fun v H1 s1 g1 => by
    cases g1
    refine ⟨k, rfl, fun e => ?_, fun e => ?_⟩
    · rw [e, Bool.true_and] at q
      exact h1 e S σ H1 Q (sl.same s1) fun v H2 s2 g2 => q v H2 (s1.trans s2) g2
    · rw [e, Bool.false_and] at q
      exact q _ H1 s1 (.bl false))
theorem d_or (h : ED X ρ a (.bool k)) (h1 : k = false → ED X ρ (.BoolOp .Or (b :: rest) pos) (.bool m)) : ED X ρ (.BoolOp .Or (a :: b :: rest) pos) (.bool (k || m)) := fun S σ H Q sl q =>
  e_or (h S σ H _ sl fun v H1 s1 g1 => by
    cases g1
    refine ⟨k, rfl, fun e => ?_, fun e => ?_⟩
    · rw [e, Bool.true_or] at q
      exact q _ H1 s1 (.bl true)
    · rw [e, Bool.false_or] at q
      exact h1 e S σ H1 Q (sl.same s1) fun v H2 s2 g2 => q v H2 (s1.trans s2) g2)
theorem d_one {op} (h : ED X ρ a d) : ED X ρ (.BoolOp op [a] pos) d := fun S σ H Q sl q => e_one (h S σ H Q sl q)
theorem d_not (h : ED X ρ a (.bool k)) : ED X ρ (.UnaryOp .Not a pos) (.bool (!k)) := fun S σ H Q sl q => e_not (h S σ H _ sl fun v H1 s1 g1 => by cases g1; exact ⟨k, rfl, q _ H1 s1 (.bl _)⟩)
theorem d_if (h : TD X ρ c k) (h1 : k = true → ED X ρ a d) (h2 : k = false → ED X ρ b d) : ED X ρ (.IfExp c a b pos) d := fun S σ H Q sl q =>
  e_if (h S σ H _ sl fun H1 s1 => ⟨fun e => h1 e S σ H1 Q (sl.same s1) fun v H2 s2 g2 => q v H2 (s1.trans s2) g2, fun e => h2 e S σ H1 Q (sl.same s1) fun v H2 s2 g2 => q v H2 (s1.trans s2) g2⟩)
theorem td_val (h : ED X ρ a (.bool k)) (he : ∀ whole, isTrue a X.env whole = (do let v ← whole; standAt a.pos; holding [v] (truthy v)) := by intro _; rfl) : TD X ρ a k := fun S σ H R sl q =>
  t_val (h S σ H _ sl fun v H1 s1 g1 => by cases g1; exact ⟨k, rfl, q H1 s1⟩) he
theorem td_not (h : TD X ρ a k) : TD X ρ (.UnaryOp .Not a pos) (!k) := fun S σ H R sl q => t_not (h S σ H _ sl fun H1 s1 => q H1 s1)
theorem td_w (h : WD X ρ a k) : TD X ρ a k := fun S σ H R sl q => t_w (h S σ H R sl q)
theorem wd_and (h : TD X ρ a k) (h1 : k = true → WD X ρ (.BoolOp .And (b :: rest) pos) m) : WD X ρ (.BoolOp .And (a :: b :: rest) pos) (k && m) := fun S σ H R sl q =>
  w_and (h S σ H _ sl fun H1 s1 => ⟨fun e => h1 e S σ H1 R (sl.same s1) fun H2 s2 => by rw [e, Bool.true_and] at q; exact q H2 (s1.trans s2), fun e => by rw [e, Bool.false_and] at q; exact q H1 s1⟩)
theorem wd_or (h : TD X ρ a k) (h1 : k = false → WD X ρ (.BoolOp .Or (b :: rest) pos) m) : WD X ρ (.BoolOp .Or (a :: b :: rest) pos) (k || m) := fun S σ H R sl q =>
  w_or (h S σ H _ sl fun H1 s1 => ⟨fun e => by rw [e, Bool.true_or] at q; exact q H1 s1, fun e => h1 e S σ H1 R (sl.same s1) fun H2 s2 => by rw [e, Bool.false_or] at q; exact q H2 (s1.trans s2)⟩)
theorem wd_and1 (h : TD X ρ a k) : WD X ρ (.BoolOp .And [a] pos) k := fun S σ H R sl q => w_and1 (h S σ H R sl q)
theorem wd_or1 (h : TD X ρ a k) : WD X ρ (.BoolOp .Or [a] pos) k := fun S σ H R sl q => w_or1 (h S σ H R sl q)
/-! comparisons -/
def rP (P : PyData → PyData → Bool → Prop) : R2 := fun x y H Q => ∃ S d e b, DG S H x d ∧ DG S H y e ∧ P d e b ∧ Q (.bl b) H
variable {op : CmpOp} {P P' : PyData → PyData → Bool → Prop}
theorem d_cmp (ho : OpR X (compareOp op) (rP P)) (ha : ED X ρ a d1) (hb : ED X ρ b d2) (hp : P d1 d2 k) (hm : behindInMarks op b = false := by first | exact nomark _ | with_unfolding_all rfl) : ED X ρ (.Compare a [op] [b] pos) (.bool k) := fun S σ H Q sl q =>
  e_cmp ho (ha S σ H _ sl fun v H1 s1 g1 => hb S σ H1 _ (sl.same s1) fun u H2 s2 g2 => ⟨S, d1, d2, k, g1.same s2, g2, hp, q _ H2 (s1.trans s2) (.bl k)⟩) hm
theorem td_cmp (ho : OpR X (compareOp op) (rP P)) (ha : ED X ρ a d1) (hb : ED X ρ b d2) (hp : P d1 d2 k) (hm : behindInMarks op b = false := by first | exact nomark _ | with_unfolding_all rfl) : TD X ρ (.Compare a [op] [b] pos) k := fun S σ H R sl q =>
  t_cmp ho (ha S σ H _ sl fun v H1 s1 g1 => hb S σ H1 _ (sl.same s1) fun u H2 s2 g2 => ⟨S, d1, d2, k, g1.same s2, g2, hp, k, rfl, q H2 (s1.trans s2)⟩) hm
def pEqS : PyData → PyData → Bool → Prop := fun d e b => ∃ z, e = .str z ∧ b = eqS d z
def pNeS : PyData → PyData → Bool → Prop := fun d e b => ∃ z, e = .str z ∧ b = !eqS d z
def pInt (f : Int → Int → Bool) : PyData → PyData → Bool → Prop := fun d e b => ∃ i j, d = .int i ∧ e = .int j ∧ b = f i j
def pEqD : PyData → PyData → Bool → Prop := fun d e b => SeqAt.shaped d = true ∧ SeqAt.shaped e = true ∧ b = PyData.eqv d e
def pNeD : PyData → PyData → Bool → Prop := fun d e b => SeqAt.shaped d = true ∧ SeqAt.shaped e = true ∧ b = !PyData.eqv d e
theorem o_eqS (hu : X.A.units + 64 < cLine) : OpR X (compareOp .Eq) (rP pEqS) := fun pins s σ H x y v u Q I rx ry ⟨S, d, e, b, g1, g2, ⟨z, e1, e2⟩, q⟩ => by
  subst e1 e2
  cases g2
  exact op_eqS hu pins s σ H _ _ v u Q I rx ry ⟨S, d, z, g1, rfl, q⟩
theorem o_neS (hu : X.A.units + 64 < cLine) : OpR X (compareOp .NotEq) (rP pNeS) := fun pins s σ H x y v u Q I rx ry ⟨S, d, e, b, g1, g2, ⟨z, e1, e2⟩, q⟩ => by
  subst e1 e2
  cases g2
  exact op_neS hu pins s σ H _ _ v u Q I rx ry ⟨S, d, z, g1, rfl, q⟩
theorem dec_i {i j : Int} : decide (V.int i = V.int j) = decide (i = j) := by
  apply Bool.eq_iff_iff.mpr
  rw [decide_eq_true_eq, decide_eq_true_eq]
  exact ⟨fun e => by injection e, fun e => by rw [e]⟩
theorem o_eqI : OpR X (compareOp .Eq) (rP (pInt fun i j => decide (i = j))) := fun pins s σ H x y v u Q I rx ry ⟨S, d, e, b, g1, g2, ⟨i, j, e1, e2, e3⟩, q⟩ => by
  subst e1 e2 e3
  cases g1; cases g2
  exact op_eq pins s σ H _ _ v u Q I rx ry ⟨rfl, by rw [dec_i]; exact q⟩
theorem o_neI : OpR X (compareOp .NotEq) (rP (pInt fun i j => !decide (i = j))) := fun pins s σ H x y v u Q I rx ry ⟨S, d, e, b, g1, g2, ⟨i, j, e1, e2, e3⟩, q⟩ => by
  subst e1 e2 e3
  cases g1; cases g2
  exact op_ne pins s σ H _ _ v u Q I rx ry ⟨rfl, by rw [dec_i]; exact q⟩
theorem o_lt : OpR X (compareOp .Lt) (rP (pInt fun i j => decide (i < j))) := fun pins s σ H x y v u Q I rx ry ⟨S, d, e, b, g1, g2, ⟨i, j, e1, e2, e3⟩, q⟩ => by
  subst e1 e2 e3
  cases g1; cases g2
  exact op_lt pins s σ H _ _ v u Q I rx ry ⟨i, j, rfl, rfl, q⟩
theorem o_le : OpR X (compareOp .LtE) (rP (pInt fun i j => decide (i ≤ j))) := fun pins s σ H x y v u Q I rx ry ⟨S, d, e, b, g1, g2, ⟨i, j, e1, e2, e3⟩, q⟩ => by
  subst e1 e2 e3
  cases g1; cases g2
  exact op_le pins s σ H _ _ v u Q I rx ry ⟨i, j, rfl, rfl, q⟩
theorem o_gt : OpR X (compareOp .Gt) (rP (pInt fun i j => decide (j < i))) := fun pins s σ H x y v u Q I rx ry ⟨S, d, e, b, g1, g2, ⟨i, j, e1, e2, e3⟩, q⟩ => by
  subst e1 e2 e3
  cases g1; cases g2
  exact op_gt pins s σ H _ _ v u Q I rx ry ⟨i, j, rfl, rfl, q⟩
theorem o_ge : OpR X (compareOp .GtE) (rP (pInt fun i j => decide (j ≤ i))) := fun pins s σ H x y v u Q I rx ry ⟨S, d, e, b, g1, g2, ⟨i, j, e1, e2, e3⟩, q⟩ => by
  subst e1 e2 e3
  cases g1; cases g2
  exact op_ge pins s σ H _ _ v u Q I rx ry ⟨i, j, rfl, rfl, q⟩
mutual
theorem DG.lay {K : PySem.W.Frag} {S : Addr → Prop} {H : Hp} : ∀ {v : V} {d : PyData}, DG S H v d → d.canLay0 = true → Dp K H v d
  | _, _, .non, _ => .non
  | _, _, .bl b, _ => .bl b
  | _, _, .int i, _ => .int i
  | _, _, .str x, _ => .str x
  | _, _, .tup h hs, n => .tup (.inl (.inl h)) (DGs.lay hs n)
  | _, _, .lst h _ hs, n => .lst (.inl (.inl h)) (DGs.lay hs n)
  | _, _, .dct h _ hs, n => by cases n
theorem DGs.lay {K : PySem.W.Frag} {S : Addr → Prop} {H : Hp} : ∀ {vs : List V} {ds : List PyData}, DGs S H vs ds → PyData.canLayAll0 ds = true → DpAll K H vs ds
  | _, _, .nil, _ => .nil
  | _, _, .cons h hs, n => by
    have n' : (_ && _) = true := n
    rw [Bool.and_eq_true] at n'
    exact .cons (DG.lay h n'.1) (DGs.lay hs n'.2)
end
theorem o_eqD (hu : X.A.units + 64 < cLine) : OpR X (compareOp .Eq) (rP pEqD) := fun pins s σ H x y v u Q I rx ry ⟨S, d, e, b, g1, g2, ⟨e1, e2, e3⟩, q⟩ => by
  subst e3
  exact op_eqD hu pins s σ H _ _ v u Q I rx ry ⟨d, e, g1.lay (SeqAt.canLay_of_shaped e1), g2.lay (SeqAt.canLay_of_shaped e2), e1, e2, q⟩
theorem o_neD (hu : X.A.units + 64 < cLine) : OpR X (compareOp .NotEq) (rP pNeD) := fun pins s σ H x y v u Q I rx ry ⟨S, d, e, b, g1, g2, ⟨e1, e2, e3⟩, q⟩ => by
  subst e3
  exact op_neD hu pins s σ H _ _ v u Q I rx ry ⟨d, e, g1.lay (SeqAt.canLay_of_shaped e1), g2.lay (SeqAt.canLay_of_shaped e2), e1, e2, q⟩
/-- a <= b <= c, ints -/
theorem td_btw {i j l : Int} (ha : ED X ρ a (.int i)) (hb : ED X ρ b (.int j)) (hc : i ≤ j → ED X ρ c (.int l)) (hm : lastMarks [.LtE, .LtE] [b, c] = false := by with_unfolding_all rfl) : TD X ρ (.Compare a [.LtE, .LtE] [b, c] pos) (decide (i ≤ j) && decide (j ≤ l)) := fun S σ H R sl q =>
  t_btw (ha S σ H _ sl fun v H1 s1 g1 => hb S σ H1 _ (sl.same s1) fun u H2 s2 g2 => by
    cases g1; cases g2
    refine ⟨i, j, rfl, rfl, fun h => hc h S σ H2 _ (sl.same (s1.trans s2)) fun w H3 s3 g3 => ?_, fun h => ?_⟩
    · cases g3
      rw [decide_eq_true h, Bool.true_and] at q
      exact ⟨l, rfl, q H3 (s1.trans (s2.trans s3))⟩
    · rw [decide_eq_false h, Bool.false_and] at q
      exact q H2 (s1.trans s2)) hm
def isNone : PyData → Bool | .none => true | _ => false
theorem d_isN {j} (h : ED X ρ a d) : ED X ρ (.Compare a [.Is] [.Constant .none j p] pos) (.bool (isNone d)) := fun S σ H Q sl q =>
  e_cmp op_isN (h S σ H _ sl fun v H1 s1 g1 => e_non ⟨rfl, by
    have e : decide (v = V.non) = isNone d := by cases g1 <;> rfl
    rw [e]
    exact q _ H1 s1 (.bl _)⟩) (by first | exact nomark _ | rfl)
theorem td_isN {j} (h : ED X ρ a d) : TD X ρ (.Compare a [.Is] [.Constant .none j p] pos) (isNone d) := fun S σ H R sl q =>
  t_cmp op_isN (h S σ H _ sl fun v H1 s1 g1 => e_non ⟨rfl, by
    have e : decide (v = V.non) = isNone d := by cases g1 <;> rfl
    rw [e]
    exact ⟨_, rfl, q H1 s1⟩⟩) (by first | exact nomark _ | rfl)
/-! built-ins -/
theorem d_isTup (hi : X.mg "isinstance" = none) (hT : X.mg "tuple" = none) (h : ED X ρ e d) (hg : Gl X "isinstance" := by rfl) (hgT : Gl X "tuple" := by rfl)
    (he : starEach [e, .Name "tuple" p2] X.env = (false, eval e X.env) :: starEach [.Name "tuple" p2] X.env := by rfl) : ED X ρ (.Call (.Name "isinstance" p) [e, .Name "tuple" p2] [] pos) (.bool (isTup d)) := fun S σ H Q sl q =>
  e_isi hi hT PyProof.Rows.boot_tuple (h S σ H _ sl fun v H1 s1 g1 => ⟨tyD d, isTup d, g1.ty, kit_tup d, q _ H1 s1 (.bl _)⟩) hg hgT (by decide) (by decide) he rfl rfl
theorem d_isStr (hi : X.mg "isinstance" = none) (hT : X.mg "str" = none) (h : ED X ρ e d) (hg : Gl X "isinstance" := by rfl) (hgT : Gl X "str" := by rfl)
    (he : starEach [e, .Name "str" p2] X.env = (false, eval e X.env) :: starEach [.Name "str" p2] X.env := by rfl) : ED X ρ (.Call (.Name "isinstance" p) [e, .Name "str" p2] [] pos) (.bool (isStr d)) := fun S σ H Q sl q =>
  e_isi hi hT PyProof.Rows.boot_str (h S σ H _ sl fun v H1 s1 g1 => ⟨tyD d, isStr d, g1.ty, kit_str d, q _ H1 s1 (.bl _)⟩) hg hgT (by decide) (by decide) he rfl rfl
theorem d_isBool (hi : X.mg "isinstance" = none) (hT : X.mg "bool" = none) (h : ED X ρ e d) (hg : Gl X "isinstance" := by rfl) (hgT : Gl X "bool" := by rfl)
    (he : starEach [e, .Name "bool" p2] X.env = (false, eval e X.env) :: starEach [.Name "bool" p2] X.env := by rfl) : ED X ρ (.Call (.Name "isinstance" p) [e, .Name "bool" p2] [] pos) (.bool (isBoo d)) := fun S σ H Q sl q =>
  e_isi hi hT (by decide +kernel) (h S σ H _ sl fun v H1 s1 g1 => ⟨tyD d, isBoo d, g1.ty, kit_boo d, q _ H1 s1 (.bl _)⟩) hg hgT (by decide) (by decide) he rfl rfl
theorem DG.seq {K : PySem.W.Frag} {S : Addr → Prop} {H : Hp} {v : V} {ds : List PyData} (h : DG S H v (.tuple ds)) : ∃ a xs, v = .ref a ∧ H a = some (.tup xs) ∧ DGs S H xs ds ∧ SqT K H a xs := by
  cases h with | tup h hs => exact ⟨_, _, rfl, h, hs, .inl (.inl h)⟩
theorem DG.seqL {K : PySem.W.Frag} {S : Addr → Prop} {H : Hp} {v : V} {ds : List PyData} (h : DG S H v (.list ds)) : ∃ a xs, v = .ref a ∧ H a = some (.lst xs) ∧ DGs S H xs ds ∧ SqL K H a xs := by
  cases h with | lst h _ hs => exact ⟨_, _, rfl, h, hs, .inl (.inl h)⟩
theorem d_len (hm : X.mg "len" = none) (h : ED X ρ e (.tuple ds)) (hg : Gl X "len" := by rfl)
    (he : starEach [e] X.env = (false, eval e X.env) :: starEach [] X.env := by rfl) : ED X ρ (.Call (.Name "len" p) [e] [] pos) (.int ds.length) := fun S σ H Q sl q =>
  e_len hm (h S σ H _ sl fun v H1 s1 g1 => by
    obtain ⟨a, xs, rfl, _, hs, sq⟩ := g1.seq (K := X.K)
    exact ⟨a, xs, rfl, .inr sq, by rw [hs.length]; exact q _ H1 s1 (.int _)⟩) hg he rfl
theorem d_lenL (hm : X.mg "len" = none) (h : ED X ρ e (.list ds)) (hg : Gl X "len" := by rfl)
    (he : starEach [e] X.env = (false, eval e X.env) :: starEach [] X.env := by rfl) : ED X ρ (.Call (.Name "len" p) [e] [] pos) (.int ds.length) := fun S σ H Q sl q =>
  e_len hm (h S σ H _ sl fun v H1 s1 g1 => by
    obtain ⟨a, xs, rfl, _, hs, sq⟩ := g1.seqL (K := X.K)
    exact ⟨a, xs, rfl, .inl sq, by rw [hs.length]; exact q _ H1 s1 (.int _)⟩) hg he rfl
theorem d_lenS {z : Str} (hm : X.mg "len" = none) (hz : z.length ≤ sizeLine) (h : ED X ρ e (.str z)) (hg : Gl X "len" := by rfl)
    (he : starEach [e] X.env = (false, eval e X.env) :: starEach [] X.env := by rfl) : ED X ρ (.Call (.Name "len" p) [e] [] pos) (.int z.length) := fun S σ H Q sl q =>
  e_lenS hm (h S σ H _ sl fun v H1 s1 g1 => by cases g1; exact ⟨z, rfl, hz, q _ H1 s1 (.int _)⟩) hg he rfl
theorem d_ix {i : Nat} (ha : ED X ρ a (.tuple ds)) (hb : ED X ρ b (.int i)) (hi : ds[i]? = some d) (hs : PlainIx b := by exact fun _ _ => rfl) : ED X ρ (.Subscript a b pos) d := fun S σ H Q sl q =>
  e_ixT (ha S σ H _ sl fun v H1 s1 g1 => hb S σ H1 _ (sl.same s1) fun u H2 s2 g2 => by
    cases g2
    obtain ⟨a, xs, rfl, _, hs, sq⟩ := (g1.same s2).seq (K := X.K)
    obtain ⟨w, hw, gw⟩ : ∃ w, xs[i]? = some w ∧ DG S H2 w d := by
      have hl := hs.length
      have lt : i < xs.length := by rw [hl]; exact (List.getElem?_eq_some_iff.mp hi).1
      obtain ⟨d', e1, e2⟩ := hs.get (List.getElem?_eq_getElem lt)
      rw [hi] at e1
      cases e1
      exact ⟨_, List.getElem?_eq_getElem lt, e2⟩
    exact ⟨a, xs, i, w, rfl, rfl, sq, atI_nat hw, q _ H2 (s1.trans s2) gw⟩) hs
theorem d_ixL {i : Nat} (ha : ED X ρ a (.list ds)) (hb : ED X ρ b (.int i)) (hi : ds[i]? = some d) (hs : PlainIx b := by exact fun _ _ => rfl) : ED X ρ (.Subscript a b pos) d := fun S σ H Q sl q =>
  e_ixL (ha S σ H _ sl fun v H1 s1 g1 => hb S σ H1 _ (sl.same s1) fun u H2 s2 g2 => by
    cases g2
    obtain ⟨a, xs, rfl, _, hs, sq⟩ := (g1.same s2).seqL (K := X.K)
    obtain ⟨w, hw, gw⟩ : ∃ w, xs[i]? = some w ∧ DG S H2 w d := by
      have hl := hs.length
      have lt : i < xs.length := by rw [hl]; exact (List.getElem?_eq_some_iff.mp hi).1
      obtain ⟨d', e1, e2⟩ := hs.get (List.getElem?_eq_getElem lt)
      rw [hi] at e1
      cases e1
      exact ⟨_, List.getElem?_eq_getElem lt, e2⟩
    exact ⟨a, xs, i, w, rfl, rfl, sq, atI_nat hw, q _ H2 (s1.trans s2) gw⟩) hs
theorem d_repr (hm : X.mg "repr" = none) (hG : X.A.guards = some []) (hu : X.A.units + 64 < cLine) (h : ED X ρ e d) (hd : d.showable = true ∧ d.depth ≤ 60 ∧ d.shown.length ≤ sizeLine) (hg : Gl X "repr" := by rfl)
    (he : starEach [e] X.env = (false, eval e X.env) :: starEach [] X.env := by rfl) : ED X ρ (.Call (.Name "repr" p) [e] [] pos) (.str d.shown) := fun S σ H Q sl q =>
  e_reprA hm hG hu (h S σ H _ sl fun v H1 s1 g1 => ⟨S, d, g1, hd.1, hd.2.1, hd.2.2, q _ H1 s1 (.str _)⟩) hg he rfl
theorem d_tupL (hm : X.mg "tuple" = none) (h : ED X ρ e (.list ds)) (hg : Gl X "tuple" := by rfl)
    (he : starEach [e] X.env = (false, eval e X.env) :: starEach [] X.env := by rfl) : ED X ρ (.Call (.Name "tuple" p) [e] [] pos) (.tuple ds) := fun S σ H Q sl q =>
  e_tupL hm (h S σ H _ sl fun v H1 s1 g1 => by
    obtain ⟨a, xs, rfl, _, hs, sq⟩ := g1.seqL (K := X.K)
    exact ⟨a, xs, rfl, sq, fun t ht => q _ _ (s1.trans (same_new ht)) (.tup upd_same (hs.same (same_new ht)))⟩) hg he rfl
theorem d_listT (hm : X.mg "list" = none) (h : ED X ρ e (.tuple ds)) (hg : Gl X "list" := by rfl)
    (he : starEach [e] X.env = (false, eval e X.env) :: starEach [] X.env := by rfl) : ED X ρ (.Call (.Name "list" p) [e] [] pos) (.list ds) := fun S σ H Q sl q =>
  e_listL hm (h S σ H _ sl fun v H1 s1 g1 => by
    obtain ⟨a, xs, rfl, _, hs, sq⟩ := g1.seq (K := X.K)
    exact ⟨a, xs, rfl, .inr sq, fun t ht => q _ _ (s1.trans (same_new ht)) (.lst upd_same (fun z => in_same s1 sl.dom t z ht) (hs.same (same_new ht)))⟩) hg he rfl
theorem bools_of {S : Addr → Prop} {H : Hp} : ∀ {xs : List V} {bs : List Bool}, DGs S H xs (bs.map PyData.bool) → xs = bs.map V.bl
  | _, [], .nil => rfl
  | _, b :: bs, .cons h hs => by
    cases h
    rw [bools_of hs]; rfl
theorem strsE {S : Addr → Prop} {H : Hp} : ∀ {xs : List V} {zs : List Str}, DGs S H xs (zs.map PyData.str) → xs = zs.map V.str
  | _, [], .nil => rfl
  | _, z :: zs, .cons h hs => by
    cases h
    rw [strsE hs]; rfl
theorem d_all {bs : List Bool} (hm : X.mg "all" = none) (h : ED X ρ e (.list (bs.map PyData.bool))) (hgl : Gl X "all" := by rfl) (hc : X.calm = true := by rfl)
    (he : starEach [e] X.env = (false, eval e X.env) :: starEach [] X.env := by rfl) : ED X ρ (.Call (.Name "all" p) [e] [] pos) (.bool (bs.all id)) := fun S σ H Q sl q =>
  e_callB (cr_all hc) hm (by decide +kernel) (a_cons (h S σ H _ sl fun v H1 s1 g1 => by
    obtain ⟨a, xs, rfl, _, hs, sq⟩ := g1.seqL (K := X.K)
    rw [bools_of hs] at sq
    exact a_nil ⟨a, bs, rfl, sq, q _ H1 s1 (.bl _)⟩) he) hgl (by decide) (by decide) he rfl
theorem d_any {bs : List Bool} (hm : X.mg "any" = none) (h : ED X ρ e (.list (bs.map PyData.bool))) (hgl : Gl X "any" := by rfl) (hc : X.calm = true := by rfl)
    (he : starEach [e] X.env = (false, eval e X.env) :: starEach [] X.env := by rfl) : ED X ρ (.Call (.Name "any" p) [e] [] pos) (.bool (bs.any id)) := fun S σ H Q sl q =>
  e_callB (cr_any hc) hm (by decide +kernel) (a_cons (h S σ H _ sl fun v H1 s1 g1 => by
    obtain ⟨a, xs, rfl, _, hs, sq⟩ := g1.seqL (K := X.K)
    rw [bools_of hs] at sq
    exact a_nil ⟨a, bs, rfl, sq, q _ H1 s1 (.bl _)⟩) he) hgl (by decide) (by decide) he rfl
/-- len(set(..)) of texts -/
theorem d_lenSet {zs : List Str} (hm : X.mg "len" = none) (hm2 : X.mg "set" = none) (h : ED X ρ a (.list (zs.map PyData.str)) ∨ ED X ρ a (.tuple (zs.map PyData.str))) (hl : zs.length ≤ 1000) (hc : X.calm = true := by rfl) (hg : Gl X "len" := by rfl) (hg2 : Gl X "set" := by rfl)
    (na : starEach [a] X.env = (false, eval a X.env) :: starEach [] X.env := by rfl) : ED X ρ (.Call (.Name "len" p) [.Call (.Name "set" p2) [a] [] p3] [] pos) (.int (cnt zs zs.length)) := fun S σ H Q sl q => by
  refine e_lenSet hm hm2 ?_ hc hg hg2 na
  rcases h with h | h
  · exact h S σ H _ sl fun v H1 s1 g1 => by
      obtain ⟨a, xs, rfl, _, hs, sq⟩ := g1.seqL (K := X.K)
      rw [strsE hs] at sq
      exact ⟨a, zs, rfl, .inl sq, hl, q _ H1 s1 (.int _)⟩
  · exact h S σ H _ sl fun v H1 s1 g1 => by
      obtain ⟨a, xs, rfl, _, hs, sq⟩ := g1.seq (K := X.K)
      rw [strsE hs] at sq
      exact ⟨a, zs, rfl, .inr sq, hl, q _ H1 s1 (.int _)⟩
/-! list comprehensions over a tuple, a list -/
section
variable {elt iter : Expr} {scope : Scope}
theorem d_lcT {n : Nat} (j : Nat) (f : PyData → PyData) (hN : X.N.Nodup) (okb : BlkOk X.N X.env.scope scope [(x, j)]) (h : ED X ρ iter (.tuple ds)) (l : ds.length ≤ 1000) (hel : ∀ d ∈ ds, BD X scope (ρ.set j (some d)) elt (f d))
    (hg : ∀ (s : Shared) (H : Hp) (C : Addr) (cl : List (Str × Addr)) (fp : List Addr), PG (X.blk s H scope (compEnvC scope cl C X.env) fp) (.Name x pt) (gName j))
    (hc : X.calm = true := by rfl) (hs : ∀ z, foldedSetIterable iter X.env z = pure z := by intro _; rfl) : ED X ρ (.ListComp elt [⟨.Name x pt, iter, [], 0⟩] scope pos) (.list (ds.map f)) := fun S σ H Q sl q => by
  refine e_lcT j hN okb (h S σ H _ sl fun v H1 s1 g1 => ?_) hg hc hs
  obtain ⟨a, xs, rfl, ha, hds, sq⟩ := g1.seq (K := X.K)
  refine ⟨a, xs, rfl, sq, fun D nD => ?_⟩
  have sl1 := sl.same s1
  have slD := sl1.and1 (o := .lst []) nD
  have hdsD := hds.mono (T := And1 S D) (My.Same.tups (same_new (o := .lst []) nD)) fun a u n e => ⟨fun z => z.elim n fun z => (by rw [z, nD] at e; cases e), by rw [upd_ne (ne_of_none e nD)]; exact e⟩
  have lx := hds.length
  refine ⟨fun i H' => ∃ ys, (∀ b o, b ≠ D → (L2.upd H1 D (.lst [])) b = some o → H' b = some o) ∧ H' D = some (.lst ys) ∧ ys.length = i ∧ DGs (And1 S D) H' ys ((ds.take i).map f), ?_, ?_, ?_, ?_⟩
  · exact ⟨[], fun b o _ e => e, upd_same, rfl, .nil⟩
  · rintro i H' _ ⟨ys, k1, _⟩
    exact .inl (.inl (k1 a _ (ne_of_none ha nD) (same_new nD _ _ ha)))
  · rintro i y H' hi ⟨ys, k1, k2, k3, k4⟩ s0 H00 C cl fp
    obtain ⟨d, hd, hy⟩ := hdsD.get hi
    have keep : ∀ {v : V} {d : PyData}, DG (And1 S D) (L2.upd H1 D (.lst [])) v d → DG (And1 S D) H' v d := fun g => g.mono (fun b xs e => k1 b _ (ne_of e upd_same (fun z => by cases z)) e) fun a o n e => ⟨n, k1 a o (fun z => n (.inr z)) e⟩
    have slp : SL (And1 S D) H' σ ρ := ⟨fun b z w => by
      cases e : (L2.upd H1 D (.lst [])) b with
      | none => exact slD.dom b z e
      | some o =>
        by_cases bD : b = D
        · rw [bD, k2] at w; cases w
        · (rw [k1 b o bD e] at w; cases w), fun i d q => let ⟨v, a, b⟩ := slD.look i d q; ⟨v, a, keep b⟩, slD.len⟩
    have sl2 := SL.set (i := j) slp (keep hy)
    have ew : (L2.wipe σ [j]).set j (some y) = σ.set j (some y) := by show (σ.set j none).set j (some y) = _; rw [List.set_set]
    rw [ew]
    refine hel d (List.mem_of_getElem? hd) s0 H00 C cl fp (And1 S D) _ H' _ sl2 fun z H4 s4 g4 => ?_
    have h4 := s4 _ _ k2
    refine ⟨ys, h4, by rw [k3]; exact Nat.lt_of_lt_of_le (show i < 1001 by have := (List.getElem?_eq_some_iff.mp hd).1; omega) (by decide), ys ++ [z], fun b o n e => ?_, upd_same, by rw [List.length_append, k3]; rfl, ?_⟩
    · rw [upd_ne n]; exact s4 _ _ (k1 b o n e)
    · have lt : i < ds.length := (List.getElem?_eq_some_iff.mp hd).1
      have e : ds[i] = d := by rw [List.getElem?_eq_getElem lt] at hd; exact Option.some.inj hd
      rw [List.take_succ_eq_append_getElem lt, List.map_append, e]
      exact ((k4.same s4).append (.cons g4 .nil)).put h4
  · rintro H' ⟨ys, k1, k2, k3, k4⟩
    rw [lx, List.take_length] at k4
    refine q _ H' (s1.trans fun b o e => k1 b o (ne_of_none e nD) (same_new nD b o e)) (.lst k2 (fun z => sl1.dom D z nD) k4.un1)
end
/-! calls of defs by their promise on data -/
def spD (F : List PyData → Option PyData) : Sp := fun vs H Q _ => ∃ S ds d, DGs S H vs ds ∧ (∀ a, S a → H a ≠ none) ∧ F ds = some d ∧ ∀ v H', Same H H' → DG S H' v d → Q v H'
theorem d_call {kk j : Nat} {F : List PyData → Option PyData} (cF : CalN X.prog X.w X.K X.mg X.base kk x (spD F)) (hr : Room j X.A) (hk : kk ≤ j) (h : AD X ρ (e :: es) ds) (hF : F ds = some d) (hg : Gl X x := by rfl)
    (hdb : (x == ("__debug__" : Str)) = false := by decide) (he : starEach (e :: es) X.env = (false, eval e X.env) :: starEach es X.env := by rfl) (hpl : (backTo pos (starEach es X.env)).any (·.1) = false := by rfl) : ED X ρ (.Call (.Name x p) (e :: es) [] pos) d := fun S σ H Q sl q =>
  e_c cF hr hk (h S σ H _ sl fun vs H1 s1 g1 => by
    rw [List.append_nil]
    exact ⟨S, ds, d, g1, in_same s1 sl.dom, hF, fun v H2 s2 g2 => q v H2 (s1.trans s2) g2⟩) hg hdb he hpl
/-! statements -/
variable {st : Stmt} {l l1 l2 : List Stmt} {o : Out} {ρ1 : Rho}
theorem ld_nil : LD X ρ [] (.nx ρ) := fun S σ H D sl q => l_nil (q σ H (Same.refl _) sl)
theorem ld_cons (h : SD X ρ st (.nx ρ1)) (hs : LD X ρ1 l o) : LD X ρ (st :: l) o := fun S σ H D sl q =>
  l_cons (h S σ H _ sl fun σ1 H1 s1 sl1 => hs S σ1 H1 D sl1 (by
    cases o with
    | ret d => exact fun v H2 s2 g2 => q v H2 (s1.trans s2) g2
    | nx ρ2 => exact fun σ2 H2 s2 g2 => q σ2 H2 (s1.trans s2) g2))
theorem ld_end (h : SD X ρ st (.ret d)) : LD X ρ (st :: l) (.ret d) := fun S σ H D sl q => l_cons (h S σ H _ sl fun v H1 s1 g1 => q v H1 s1 g1)
theorem sd_ret (h : ED X ρ e d) : SD X ρ (.Return (some e) pos) (.ret d) := fun S σ H D sl q => s_ret (h S σ H _ sl q)
theorem sd_if (h : TD X ρ c k) (h1 : k = true → LD X ρ l1 o) (h2 : k = false → LD X ρ l2 o) : SD X ρ (.If c l1 l2 pos) o := fun S σ H D sl q =>
  s_if (h S σ H _ sl fun H1 s1 => by
    have q1 : o.Is S H1 D := by
      cases o with
      | ret d => exact fun v H2 s2 g2 => q v H2 (s1.trans s2) g2
      | nx ρ2 => exact fun σ2 H2 s2 g2 => q σ2 H2 (s1.trans s2) g2
    exact ⟨fun e => h1 e S σ H1 D (sl.same s1) q1, fun e => h2 e S σ H1 D (sl.same s1) q1⟩)
/-- if c: return d1 -/
theorem ld_ifret (h : TD X ρ c k) (h1 : k = true → LD X ρ l1 (.ret d)) (h2 : k = false → LD X ρ l (.ret d)) : LD X ρ (.If c l1 [] pos :: l) (.ret d) := by
  cases k with
  | true => exact ld_end (sd_if h h1 (fun e => by cases e))
  | false => exact ld_cons (sd_if h (fun e => by cases e) fun _ => ld_nil) (h2 rfl)
theorem sd_set (i : Nat) (h : ED X ρ e d) (hN : X.N.Nodup) (hi : X.N[i]? = some x := by rfl) (hx : Loc X.env.scope x := by first | exact Or.inl rfl | exact Or.inr rfl)
    (hs : swapsWith e (some (.Name x p)) pos.line X.env = pure false := by rfl) (hf : X.fn x = true ∨ X.env.scope.names.lookup x = some .local := by first | exact .inl rfl | exact .inr rfl | assumption) : SD X ρ (.Assign [.Name x p] e pos) (.nx (ρ.set i (some d))) := fun S σ H D sl q =>
  s_set i (h S σ H _ sl fun v H1 s1 g1 => q _ H1 s1 ((sl.same s1).set g1)) hN hi hx hs hf
end
end My

namespace My
open PySem PySem.Spec PyProof.Rows L2
/-! ### defs by their promise on data -/
def startD (N : List Str) (ds : List PyData) : Rho := ds.map some ++ List.replicate (N.length - ds.length) none
theorem sl_start {S : Addr → Prop} {H : Hp} {N : List Str} {vs : List V} {ds : List PyData} (h : DGs S H vs ds) (hS : ∀ a, S a → H a ≠ none) : SL S H (L2.start N vs) (startD N ds) := by
  have hl := h.length
  refine ⟨hS, fun i d q => ?_, ?_⟩
  · unfold startD at q
    by_cases lt : i < ds.length
    · rw [List.getElem?_append_left (by rw [List.length_map]; exact lt), List.getElem?_map] at q
      have lv : i < vs.length := by omega
      obtain ⟨d', e1, e2⟩ := h.get (List.getElem?_eq_getElem lv)
      rw [e1] at q
      cases q
      refine ⟨vs[i], ?_, e2⟩
      unfold L2.start
      rw [List.getElem?_append_left (by rw [List.length_map]; exact lv), List.getElem?_map, List.getElem?_eq_getElem lv]
      rfl
    · rw [List.getElem?_append_right (by rw [List.length_map]; omega), List.getElem?_replicate] at q
      split at q <;> cases q
  · unfold L2.start startD
    rw [List.length_append, List.length_append, List.length_map, List.length_map, List.length_replicate, List.length_replicate, hl]
theorem Fun.okD {P : Program} {w : World} {K : PySem.W.Frag} {mg : Str → Option Value} {base : Heap} {x qual : Str} {st : Stmt} {f : Addr} {fd : FuncData} {N ps : List Str} {k : Nat} {Fn : List PyData → Option PyData} (F : Fun K x qual st f fd) (S : FnScope N ps (defScope st))
    (len : ∀ ds d, Fn ds = some d → ds.length = ps.length)
    (body : ∀ (cdv : Value) (B : Around) (out : List Env) (s : Shared) (H : Hp) (E : XK) (ds : List PyData) (d : PyData), Room k (B.deeper (envOfC qual (defScope st) s.heap.objs.size f cdv)) → Fn ds = some d →
      LD (cxOf CX0 P w K mg base N qual (defScope st) f cdv B out s H E).nox (startD N ds) (defBody st) (.ret d)) : FnOk P w K mg base CX0 (k + 1) f fd ps (spD Fn) :=
  Fun.okW F S (fun vs H Q E ⟨S0, ds, d, g, _, e, _⟩ => by rw [g.length]; exact len ds d e) fun cdv B out s H vs Q E hr ⟨S0, ds, d, g, hS, e, q⟩ =>
    body cdv B out s H E ds d hr e S0 _ H _ (sl_start g hS) q
theorem Fun.okDG {P : Program} {w : World} {K : PySem.W.Frag} {mg : Str → Option Value} {base : Heap} {x qual : Str} {st : Stmt} {f : Addr} {fd : FuncData} {N ps : List Str} {k : Nat} {Fn : List PyData → Option PyData} (F : Fun K x qual st f fd) (S : FnScope N ps (defScope st))
    (len : ∀ ds d, Fn ds = some d → ds.length = ps.length)
    (body : ∀ (cdv : Value) (B : Around) (out : List Env) (s : Shared) (H : Hp) (E : XK) (ds : List PyData) (d : PyData), Room k (B.deeper (envOfC qual (defScope st) s.heap.objs.size f cdv)) →
      (B.deeper (envOfC qual (defScope st) s.heap.objs.size f cdv)).guards = some [] → Fn ds = some d →
      LD (cxOf CX0 P w K mg base N qual (defScope st) f cdv B out s H E).nox (startD N ds) (defBody st) (.ret d)) : FnG P w K mg base (k + 1) f fd ps (spD Fn) :=
  Fun.okG F S (fun vs H Q E ⟨S0, ds, d, g, _, e, _⟩ => by rw [g.length]; exact len ds d e) fun cdv B out s H vs Q E hr hG ⟨S0, ds, d, g, hS, e, q⟩ =>
    body cdv B out s H E ds d hr hG e S0 _ H _ (sl_start g hS) q
/-! ### order of texts -/
def srt (zs : List Str) : List Str := zs.mergeSort fun a b => !decide (lt b a)
theorem srt_perm (zs : List Str) : (srt zs).Perm zs := List.mergeSort_perm ..
theorem srt_pw (zs : List Str) : (srt zs).Pairwise fun a b => ¬ lt b a := by
  have h := List.pairwise_mergeSort (le := fun a b : Str => !decide (lt b a)) (fun a b c h1 h2 => by
    have h1' : ¬ lt b a := by simpa using h1
    have h2' : ¬ lt c b := by simpa using h2
    simpa using le_trans h1' h2') (fun a b => by
    by_cases q : lt b a
    · have : ¬ lt a b := fun z => lt_irr a (lt_trans z q)
      simp [this]
    · simp [q]) zs
  exact h.imp fun {a b} h => by simpa using h
theorem srt_uniq {zs ys : List Str} (hp : ys.Perm zs) (hs : sortedS ys = true) : ys = srt zs :=
  List.Perm.eq_of_pairwise (fun a b _ _ h1 h2 => lt_tri h2 h1) (sortedS_pw hs) (srt_pw zs) (hp.trans (srt_perm zs).symm)
def dd : List Str → List Str
  | [] => []
  | x :: xs => if x ∈ xs then dd xs else x :: dd xs
theorem mem_dd (k : Str) : ∀ xs : List Str, k ∈ dd xs ↔ k ∈ xs
  | [] => Iff.rfl
  | x :: xs => by
    have ih := mem_dd k xs
    unfold dd
    split
    · rw [ih, List.mem_cons]
      exact ⟨.inr, fun h => h.elim (fun e => by rw [e]; assumption) id⟩
    · rw [List.mem_cons, List.mem_cons, ih]
theorem nodup_dd : ∀ xs : List Str, (dd xs).Nodup
  | [] => List.nodup_nil
  | x :: xs => by
    unfold dd
    split
    · exact nodup_dd xs
    · exact List.nodup_cons.mpr ⟨fun h => by rw [mem_dd] at h; contradiction, nodup_dd xs⟩
theorem dd_self : ∀ {xs : List Str}, xs.Nodup → dd xs = xs
  | [], _ => rfl
  | x :: xs, h => by
    have h' := List.nodup_cons.mp h
    unfold dd
    rw [if_neg h'.1, dd_self h'.2]
theorem srtSet_uniq {zs ys : List Str} (hs : sortedS ys = true) (hn : ys.Nodup) (hm : ∀ k, k ∈ ys ↔ k ∈ zs) : ys = srt (dd zs) :=
  srt_uniq ((List.perm_ext_iff_of_nodup hn (nodup_dd zs)).mpr fun k => by rw [hm k, mem_dd]) hs
theorem dd_len (zs : List Str) : (dd zs).length = zs.length ↔ zs.Nodup := by
  induction zs with
  | nil => exact ⟨fun _ => List.nodup_nil, fun _ => rfl⟩
  | cons x xs ih =>
    have le : ∀ l : List Str, (dd l).length ≤ l.length := fun l => by
      induction l with
      | nil => exact Nat.le_refl _
      | cons y l ih => unfold dd; split
                       · rw [List.length_cons]; omega
                       · rw [List.length_cons, List.length_cons]; omega
    unfold dd
    split
    · rename_i h
      have := le xs
      rw [List.length_cons, List.nodup_cons]
      exact ⟨fun e => by omega, fun e => absurd h e.1⟩
    · rename_i h
      rw [List.length_cons, List.length_cons, List.nodup_cons, ← ih]
      exact ⟨fun e => ⟨h, by omega⟩, fun e => by omega⟩
theorem srt_asc (zs : List Str) : decide (zs = srt (dd zs)) = ascS zs := by
  apply Bool.eq_iff_iff.mpr
  rw [decide_eq_true_eq, asc_iff]
  constructor
  · intro e
    have pw := srt_pw (dd zs)
    have nd : (srt (dd zs)).Nodup := (srt_perm _).nodup_iff.mpr (nodup_dd zs)
    rw [← e] at pw nd
    refine (pw.and nd).imp fun {a b} ⟨h1, h2⟩ => ?_
    by_cases q : lt a b
    · exact q
    · exact absurd (lt_tri q h1) h2
  · intro h
    have nd : zs.Nodup := h.imp (S := fun a b => a ≠ b) fun {a b} h1 h2 => lt_irr a (by rw [← h2] at h1; exact h1)
    rw [dd_self nd]
    exact List.Perm.eq_of_pairwise (fun a b _ _ h1 h2 => lt_tri h2 h1) (h.imp fun {a b} h1 h2 => lt_irr a (lt_trans h1 h2)) (srt_pw zs) (srt_perm zs).symm
section
variable {X : Cx} {ρ : Rho} {a b c e : Expr} {es rest : List Expr} {d d1 d2 : PyData} {ds ds2 : List PyData} {pos p p2 p3 pc pt : Pos} {x : Str} {k m : Bool}
theorem d_callG {kk j : Nat} {F : List PyData → Option PyData} (cF : CalG X.prog X.w X.K X.mg X.base kk x (spD F)) (hr : Room j X.A) (hG : X.A.guards = some []) (hk : kk ≤ j) (h : AD X ρ (e :: es) ds) (hF : F ds = some d) (hg : Gl X x := by rfl)
    (hdb : (x == ("__debug__" : Str)) = false := by decide) (he : starEach (e :: es) X.env = (false, eval e X.env) :: starEach es X.env := by rfl) (hpl : (backTo pos (starEach es X.env)).any (·.1) = false := by rfl) : ED X ρ (.Call (.Name x p) (e :: es) [] pos) d := fun S σ H Q sl q =>
  e_cG cF hr hG hk (h S σ H _ sl fun vs H1 s1 g1 => by
    exact ⟨S, ds, d, g1, in_same s1 sl.dom, hF, fun v H2 s2 g2 => q v H2 (s1.trans s2) g2⟩) hg hdb he hpl
theorem ED.cast {d' : PyData} (h : ED X ρ e d) (q : d = d') : ED X ρ e d' := q ▸ h
theorem TD.cast {k' : Bool} (h : TD X ρ e k) (q : k = k') : TD X ρ e k' := q ▸ h
/-- sorted of texts; sorted(set(..)) -/
theorem d_sortedL {zs : List Str} (hm : X.mg "sorted" = none) (h : ED X ρ e (.list (zs.map PyData.str))) (l : zs.length < 64) (hg : Gl X "sorted" := by rfl)
    (he : starEach [e] X.env = (false, eval e X.env) :: starEach [] X.env := by rfl) : ED X ρ (.Call (.Name "sorted" p) [e] [] pos) (.list ((srt zs).map PyData.str)) := fun S σ H Q sl q =>
  e_sorted hm (h S σ H _ sl fun v H1 s1 g1 => by
    obtain ⟨a, xs, rfl, _, hs, sq⟩ := g1.seqL (K := X.K)
    rw [strsE hs] at sq
    refine ⟨a, zs, rfl, sq, l, fun ys t hp hso ht => ?_⟩
    rw [srt_uniq hp hso]
    exact q _ _ (s1.trans (same_new ht)) (.lst upd_same (fun z => in_same s1 sl.dom t z ht) (DGs.strs _))) hg he rfl
theorem d_sortedT {zs : List Str} (hm : X.mg "sorted" = none) (h : ED X ρ e (.tuple (zs.map PyData.str))) (l : zs.length < 64) (hg : Gl X "sorted" := by rfl)
    (he : starEach [e] X.env = (false, eval e X.env) :: starEach [] X.env := by rfl) : ED X ρ (.Call (.Name "sorted" p) [e] [] pos) (.list ((srt zs).map PyData.str)) := fun S σ H Q sl q =>
  e_callB cr_sortedTS hm PyProof.Rows.boot_sorted (a_cons (h S σ H _ sl fun v H1 s1 g1 => by
    obtain ⟨a, xs, rfl, _, hs, sq⟩ := g1.seq (K := X.K)
    rw [strsE hs] at sq
    refine a_nil ⟨a, zs, rfl, sq, l, fun ys t hp hso ht => ?_⟩
    rw [srt_uniq hp hso]
    exact q _ _ (s1.trans (same_new ht)) (.lst upd_same (fun z => in_same s1 sl.dom t z ht) (DGs.strs _))) he) hg (by decide) (by decide) he rfl
theorem d_sortedSet {zs : List Str} (hm : X.mg "sorted" = none) (hm2 : X.mg "set" = none) (h : ED X ρ a (.list (zs.map PyData.str)) ∨ ED X ρ a (.tuple (zs.map PyData.str))) (l : zs.length < 64) (hc : X.calm = true := by rfl) (hg : Gl X "sorted" := by rfl) (hg2 : Gl X "set" := by rfl)
    (na : starEach [a] X.env = (false, eval a X.env) :: starEach [] X.env := by rfl) : ED X ρ (.Call (.Name "sorted" p) [.Call (.Name "set" p2) [a] [] p3] [] pos) (.list ((srt (dd zs)).map PyData.str)) := fun S σ H Q sl q => by
  refine e_sortedSet hm hm2 ?_ hc hg hg2 na
  have fin : ∀ {H1 : Hp}, Same H H1 → ∀ (ys : List Str) (t : Addr), sortedS ys = true → ys.Nodup → (∀ k, k ∈ ys ↔ k ∈ zs) → ys.length = cnt zs zs.length → H1 t = none → Q (.ref t) (upd H1 t (.lst (ys.map V.str))) := fun {H1} s1 ys t hso hnd hmem _ ht => by
    rw [srtSet_uniq hso hnd hmem]
    exact q _ _ (s1.trans (same_new ht)) (.lst upd_same (fun z => in_same s1 sl.dom t z ht) (DGs.strs _))
  rcases h with h | h
  · exact h S σ H _ sl fun v H1 s1 g1 => by
      obtain ⟨a, xs, rfl, _, hs, sq⟩ := g1.seqL (K := X.K)
      rw [strsE hs] at sq
      exact ⟨a, zs, rfl, .inl sq, l, fin s1⟩
  · exact h S σ H _ sl fun v H1 s1 g1 => by
      obtain ⟨a, xs, rfl, _, hs, sq⟩ := g1.seq (K := X.K)
      rw [strsE hs] at sq
      exact ⟨a, zs, rfl, .inr sq, l, fin s1⟩
/-! ### over a text, over range -/
section
variable {elt iter : Expr} {scope : Scope}
theorem lc_step {S : Addr → Prop} {σ : L2.St} {H1 H' : Hp} {D : Addr} {ys : List V} (nD : H1 D = none) (sl1 : SL S H1 σ ρ) (k1 : ∀ b o, b ≠ D → (L2.upd H1 D (.lst [])) b = some o → H' b = some o) (k2 : H' D = some (.lst ys)) : SL (And1 S D) H' σ ρ := by
  have slD := sl1.and1 (o := .lst []) nD
  have keep : ∀ {v : V} {d : PyData}, DG (And1 S D) (L2.upd H1 D (.lst [])) v d → DG (And1 S D) H' v d := fun g => g.mono (fun b xs e => k1 b _ (ne_of e upd_same (fun z => by cases z)) e) fun a o n e => ⟨n, k1 a o (fun z => n (.inr z)) e⟩
  exact ⟨fun b z w => by
      cases e : (L2.upd H1 D (.lst [])) b with
      | none => exact slD.dom b z e
      | some o =>
        by_cases bD : b = D
        · rw [bD, k2] at w; cases w
        · (rw [k1 b o bD e] at w; cases w), fun i d q => let ⟨v, a, b⟩ := slD.look i d q; ⟨v, a, keep b⟩, slD.len⟩
theorem d_lcS {z : Str} (j : Nat) (f : Nat → PyData) (hN : X.N.Nodup) (okb : BlkOk X.N X.env.scope scope [(x, j)]) (h : ED X ρ iter (.str z)) (l : z.length ≤ 1000) (hel : ∀ c ∈ z.cps.toList, BD X scope (ρ.set j (some (.str ⟨#[c]⟩))) elt (f c))
    (hg : ∀ (s : Shared) (H : Hp) (C : Addr) (cl : List (Str × Addr)) (fp : List Addr), PG (X.blk s H scope (compEnvC scope cl C X.env) fp) (.Name x pt) (gName j))
    (hc : X.calm = true := by rfl) (hs : ∀ z, foldedSetIterable iter X.env z = pure z := by intro _; rfl) : ED X ρ (.ListComp elt [⟨.Name x pt, iter, [], 0⟩] scope pos) (.list (z.cps.toList.map f)) := fun S σ H Q sl q => by
  refine e_lcS j hN okb (h S σ H _ sl fun v H1 s1 g1 => ?_) hg hc hs
  cases g1
  refine ⟨z, rfl, fun D nD => ?_⟩
  have sl1 := sl.same s1
  refine ⟨fun i H' => ∃ ys, (∀ b o, b ≠ D → (L2.upd H1 D (.lst [])) b = some o → H' b = some o) ∧ H' D = some (.lst ys) ∧ ys.length = i ∧ DGs (And1 S D) H' ys ((z.cps.toList.take i).map f), ?_, ?_, ?_⟩
  · exact ⟨[], fun b o _ e => e, upd_same, rfl, .nil⟩
  · rintro i ch H' hi ⟨ys, k1, k2, k3, k4⟩ s0 H00 C cl fp
    have hi' : z.cps.toList[i]? = some ch := by rw [Array.getElem?_toList]; exact hi
    have lt : i < z.cps.toList.length := (List.getElem?_eq_some_iff.mp hi').1
    have sl2 := SL.set (i := j) (lc_step nD sl1 k1 k2) (DG.str (S := And1 S D) (H := H') ⟨#[ch]⟩)
    have ew : (L2.wipe σ [j]).set j (some (V.str ⟨#[ch]⟩)) = σ.set j (some (V.str ⟨#[ch]⟩)) := by show (σ.set j none).set j _ = _; rw [List.set_set]
    rw [ew]
    refine hel ch (List.mem_of_getElem? hi') s0 H00 C cl fp (And1 S D) _ H' _ sl2 fun y H4 s4 g4 => ?_
    have h4 := s4 _ _ k2
    have i1 : i < 1001 := by
      have e : z.cps.toList.length = z.length := by rw [Array.length_toList]; rfl
      omega
    refine ⟨ys, h4, by rw [k3]; exact Nat.lt_of_lt_of_le i1 (by decide), ys ++ [y], fun b o n e => ?_, upd_same, by rw [List.length_append, k3]; rfl, ?_⟩
    · rw [upd_ne n]; exact s4 _ _ (k1 b o n e)
    · have e : z.cps.toList[i] = ch := by rw [List.getElem?_eq_getElem lt] at hi'; exact Option.some.inj hi'
      rw [List.take_succ_eq_append_getElem lt, List.map_append, e]
      exact ((k4.same s4).append (.cons g4 .nil)).put h4
  · rintro H' ⟨ys, k1, k2, k3, k4⟩
    have e : z.cps.size = z.cps.toList.length := by rw [Array.length_toList]
    rw [e, List.take_length] at k4
    refine q _ H' (s1.trans fun b o e => k1 b o (ne_of_none e nD) (same_new nD b o e)) (.lst k2 (fun z => sl1.dom D z nD) k4.un1)
theorem d_lcR {n : Nat} (j : Nat) (f : Nat → PyData) (hm : X.mg "range" = none) (hN : X.N.Nodup) (okb : BlkOk X.N X.env.scope scope [(x, j)]) (h : ED X ρ a (.int n)) (l : n ≤ 1000) (hel : ∀ i, i < n → BD X scope (ρ.set j (some (.int i))) elt (f i))
    (hg : ∀ (s : Shared) (H : Hp) (C : Addr) (cl : List (Str × Addr)) (fp : List Addr), PG (X.blk s H scope (compEnvC scope cl C X.env) fp) (.Name x pt) (gName j))
    (hgl : Gl X "range" := by rfl) (hst : starEach [a] X.env = [(false, eval a X.env)] := by rfl)
    (hc : X.calm = true := by rfl) (hs : ∀ z, foldedSetIterable (.Call (.Name "range" p) [a] [] pc) X.env z = pure z := by intro _; rfl) : ED X ρ (.ListComp elt [⟨.Name x pt, .Call (.Name "range" p) [a] [] pc, [], 0⟩] scope pos) (.list ((List.range n).map f)) := fun S σ H Q sl q => by
  refine e_lcR j hm hN okb (h S σ H _ sl fun v H1 s1 g1 => ?_) hg hgl hst hc hs
  cases g1
  refine ⟨n, rfl, by omega, fun D nD => ?_⟩
  have sl1 := sl.same s1
  refine ⟨fun i H' => ∃ ys, (∀ b o, b ≠ D → (L2.upd H1 D (.lst [])) b = some o → H' b = some o) ∧ H' D = some (.lst ys) ∧ ys.length = i ∧ DGs (And1 S D) H' ys ((List.range i).map f), ?_, ?_, ?_⟩
  · exact ⟨[], fun b o _ e => e, upd_same, rfl, .nil⟩
  · rintro i H' hi ⟨ys, k1, k2, k3, k4⟩ s0 H00 C cl fp
    have sl2 := SL.set (i := j) (lc_step nD sl1 k1 k2) (DG.int (S := And1 S D) (H := H') (i : Int))
    have ew : (L2.wipe σ [j]).set j (some (V.int i)) = σ.set j (some (V.int i)) := by show (σ.set j none).set j _ = _; rw [List.set_set]
    rw [ew]
    refine hel i hi s0 H00 C cl fp (And1 S D) _ H' _ sl2 fun y H4 s4 g4 => ?_
    have h4 := s4 _ _ k2
    refine ⟨ys, h4, by rw [k3]; exact Nat.lt_of_lt_of_le (show i < 1001 by omega) (by decide), ys ++ [y], fun b o n e => ?_, upd_same, by rw [List.length_append, k3]; rfl, ?_⟩
    · rw [upd_ne n]; exact s4 _ _ (k1 b o n e)
    · rw [List.range_succ, List.map_append]
      exact ((k4.same s4).append (.cons g4 .nil)).put h4
  · rintro H' ⟨ys, k1, k2, k3, k4⟩
    exact q _ H' (s1.trans fun b o e => k1 b o (ne_of_none e nD) (same_new nD b o e)) (.lst k2 (fun z => sl1.dom D z nD) k4.un1)
end
/-! ### unpacking, for -/
variable {st : Stmt} {l l1 l2 : List Stmt} {o : Out} {ρ1 : Rho} {x1 x2 x3 x4 : Str} {q1 q2 q3 q4 : Pos} {kt : _}
theorem sd_unp2 {da db : PyData} (i1 i2 : Nat) (h : ED X ρ e (.tuple [da, db])) (hg : PG X (.Tuple [.Name x1 q1, .Name x2 q2] kt pt) (gTup X.K 2 (gCons (gName i1) (gCons (gName i2) gNil))))
    (hs : swapsWithSole [.Tuple [.Name x1 q1, .Name x2 q2] kt pt] e pos.line X.env = pure false := by rfl) (hw : swappedStores [.Tuple [.Name x1 q1, .Name x2 q2] kt pt] e X.env = pure none := by rfl)
    (h1 : (assignEach [.Tuple [.Name x1 q1, .Name x2 q2] kt pt] X.env).map (·.2) = [assign (.Tuple [.Name x1 q1, .Name x2 q2] kt pt) X.env] := by rfl) : SD X ρ (.Assign [.Tuple [.Name x1 q1, .Name x2 q2] kt pt] e pos) (.nx ((ρ.set i1 (some da)).set i2 (some db))) := fun S σ H D sl q =>
  s_asg hg (h S σ H _ sl fun v H1 s1 g1 => by
    obtain ⟨a, xs, rfl, _, hs, sq⟩ := g1.seq (K := X.K)
    cases hs with | cons ga hs => cases hs with | cons gb hs => cases hs with | nil =>
      exact ⟨a, _, rfl, sq, rfl, _, _, rfl, _, _, rfl, rfl, q _ H1 s1 (((sl.same s1).set ga).set gb)⟩) hs hw h1
theorem sd_unp3 {da db dc : PyData} (i1 i2 i3 : Nat) (h : ED X ρ e (.tuple [da, db, dc])) (hg : PG X (.Tuple [.Name x1 q1, .Name x2 q2, .Name x3 q3] kt pt) (gTup X.K 3 (gCons (gName i1) (gCons (gName i2) (gCons (gName i3) gNil)))))
    (hs : swapsWithSole [.Tuple [.Name x1 q1, .Name x2 q2, .Name x3 q3] kt pt] e pos.line X.env = pure false := by rfl) (hw : swappedStores [.Tuple [.Name x1 q1, .Name x2 q2, .Name x3 q3] kt pt] e X.env = pure none := by rfl)
    (h1 : (assignEach [.Tuple [.Name x1 q1, .Name x2 q2, .Name x3 q3] kt pt] X.env).map (·.2) = [assign (.Tuple [.Name x1 q1, .Name x2 q2, .Name x3 q3] kt pt) X.env] := by rfl) : SD X ρ (.Assign [.Tuple [.Name x1 q1, .Name x2 q2, .Name x3 q3] kt pt] e pos) (.nx (((ρ.set i1 (some da)).set i2 (some db)).set i3 (some dc))) := fun S σ H D sl q =>
  s_asg hg (h S σ H _ sl fun v H1 s1 g1 => by
    obtain ⟨a, xs, rfl, _, hs, sq⟩ := g1.seq (K := X.K)
    cases hs with | cons ga hs => cases hs with | cons gb hs => cases hs with | cons gc hs => cases hs with | nil =>
      exact ⟨a, _, rfl, sq, rfl, _, _, rfl, _, _, rfl, _, _, rfl, rfl, q _ H1 s1 ((((sl.same s1).set ga).set gb).set gc)⟩) hs hw h1
theorem sd_unp4 {da db dc de : PyData} (i1 i2 i3 i4 : Nat) (h : ED X ρ e (.tuple [da, db, dc, de])) (hg : PG X (.Tuple [.Name x1 q1, .Name x2 q2, .Name x3 q3, .Name x4 q4] kt pt) (gTup X.K 4 (gCons (gName i1) (gCons (gName i2) (gCons (gName i3) (gCons (gName i4) gNil))))))
    (hs : swapsWithSole [.Tuple [.Name x1 q1, .Name x2 q2, .Name x3 q3, .Name x4 q4] kt pt] e pos.line X.env = pure false := by rfl) (hw : swappedStores [.Tuple [.Name x1 q1, .Name x2 q2, .Name x3 q3, .Name x4 q4] kt pt] e X.env = pure none := by rfl)
    (h1 : (assignEach [.Tuple [.Name x1 q1, .Name x2 q2, .Name x3 q3, .Name x4 q4] kt pt] X.env).map (·.2) = [assign (.Tuple [.Name x1 q1, .Name x2 q2, .Name x3 q3, .Name x4 q4] kt pt) X.env] := by rfl) : SD X ρ (.Assign [.Tuple [.Name x1 q1, .Name x2 q2, .Name x3 q3, .Name x4 q4] kt pt] e pos) (.nx ((((ρ.set i1 (some da)).set i2 (some db)).set i3 (some dc)).set i4 (some de))) := fun S σ H D sl q =>
  s_asg hg (h S σ H _ sl fun v H1 s1 g1 => by
    obtain ⟨a, xs, rfl, _, hs, sq⟩ := g1.seq (K := X.K)
    cases hs with | cons ga hs => cases hs with | cons gb hs => cases hs with | cons gc hs => cases hs with | cons gd hs => cases hs with | nil =>
      exact ⟨a, _, rfl, sq, rfl, _, _, rfl, _, _, rfl, _, _, rfl, _, _, rfl, rfl, q _ H1 s1 (((((sl.same s1).set ga).set gb).set gc).set gd)⟩) hs hw h1
/-- for x in a tuple; each turn goes on (to the next turn's slots), or returns -/
inductive ForD (X : Cx) (j : Nat) (body : List Stmt) : List PyData → Rho → Out → Prop
  | done {ρ : Rho} : ForD X j body [] ρ (.nx ρ)
  | next {ρ ρ1 : Rho} {d : PyData} {ds : List PyData} {o : Out} (h : LD X (ρ.set j (some d)) body (.nx ρ1)) (r : ForD X j body ds ρ1 o) : ForD X j body (d :: ds) ρ o
  | ret {ρ : Rho} {d r : PyData} {ds : List PyData} (h : LD X (ρ.set j (some d)) body (.ret r)) : ForD X j body (d :: ds) ρ (.ret r)
theorem sd_forT {iter : Expr} {body : List Stmt} (j : Nat) (h : ED X ρ iter (.tuple ds)) (hf : ForD X j body ds ρ o) (hg : PG X (.Name x pt) (gName j)) (hp : PassesOwn (model X.prog X.w) X.A X.env X.xe) (hc : X.calm = true := by rfl)
    (hs : ∀ x, foldedSetIterable iter X.env x = pure x := by intro _; rfl) : SD X ρ (.For (.Name x pt) iter body [] pos) o := fun S σ H D sl q => by
  refine s_for (pi_tup pE) hg (h S σ H _ sl fun v H1 s1 g1 => ?_) hp hc hs
  obtain ⟨a, xs, rfl, ha, hds, sq⟩ := g1.seq (K := X.K)
  refine ⟨a, rfl, ⟨xs, sq⟩, for_tup (xs := xs) (fun i σ' H' => ∃ ρ', Same H1 H' ∧ SL S H' σ' ρ' ∧ ForD X j body (ds.drop i) ρ' o) ⟨ρ, Same.refl _, sl.same s1, hf⟩ (fun i σ' H' _ ⟨_, s2, _⟩ => .inl (.inl (s2 _ _ ha))) ?_ ?_⟩
  · rintro i y σ' H' hi ⟨ρ', s2, sl2, fd⟩
    obtain ⟨d, hd, hy⟩ := hds.get hi
    have lt : i < ds.length := (List.getElem?_eq_some_iff.mp hd).1
    have e : ds.drop i = d :: ds.drop (i + 1) := by
      rw [List.drop_eq_getElem_cons lt]
      rw [List.getElem?_eq_getElem lt] at hd
      rw [Option.some.inj hd]
    rw [e] at fd
    have sl3 := sl2.set (i := j) (hy.same s2)
    cases fd with
    | next hb r => exact hb S _ H' _ sl3 fun σ4 H4 s4 sl4 => ⟨_, s2.trans s4, sl4, r⟩
    | ret hb => exact hb S _ H' _ sl3 fun v H4 s4 g4 => q v H4 (s1.trans (s2.trans s4)) g4
  · rintro σ' H' ⟨ρ', s2, sl2, fd⟩
    rw [hds.length, List.drop_length] at fd
    cases fd
    exact q σ' H' (s1.trans s2) sl2
end
end My

namespace My
open PySem PySem.Spec PyProof.Rows L2
/-! ### forms, as functions on data -/
def els : PyData → List PyData | .tuple ds => ds | _ => []
def at' (d : PyData) (i : Nat) : PyData := (els d).getD i .none
def tupN (d : PyData) (n : Nat) : Bool := isTup d && decide ((els d).length = n)
def nnD (d : PyData) : Bool := isNone d || namD d
def pairD (d : PyData) : Bool := tupN d 2
def colD (d : PyData) : Bool := pairD d && (nnD (at' d 0) && namD (at' d 1))
def callD : Nat → PyData → Bool
  | 0, _ => false
  | k + 1, d => tupN d 4 && (eqS (at' d 0) "call" && nnD (at' d 1) && namD (at' d 2)) && tupD 1 2 (fun x => colD x || valD x || callD k x) (at' d 3)
def toldD (d : PyData) : Bool := if pairD d then eqS (at' d 0) "star" && namD (at' d 1) else tupN d 3 && namD (at' d 2) && (if eqS (at' d 0) "column" then colD (at' d 1) else eqS (at' d 0) "term" && (valD (at' d 1) || callD 3 (at' d 1)))
def srcD (d : PyData) : Bool := tupN d 3 && (nnD (at' d 0) && namD (at' d 1) && namD (at' d 2))
def condD (d : PyData) : Bool := tupN d 3 && colD (at' d 1) && (if eqS (at' d 0) "equal" then colD (at' d 2) else eqS (at' d 0) "in" && valsD (at' d 2))
def labs (d : PyData) (i : Nat) : List Str := (els d).map fun x => My.strOf (at' x i)
def stD (d : PyData) : Bool := tupN d 4 && (isBoo (at' d 0) && tupD 1 8 toldD (at' d 1) && tupD 1 4 srcD (at' d 2) && decide (labs (at' d 2) 2).Nodup && tupD 0 8 condD (at' d 3))
def hasV : Nat → PyData → Bool
  | 0, d => isStr d
  | k + 1, d => isStr d || (!pairD d && (els (at' d 3)).any (hasV k))
def truB : PyData → Bool | .bool b => b | _ => false
def viewD (d : PyData) : Bool := stD d && !truB (at' d 0) && (els (at' d 1)).all (fun it => !(eqS (at' it 0) "star" || hasV 3 (at' it 1))) && decide (labs (at' d 1) 2).Nodup
def pathD (d : PyData) : Bool := tupD 0 6 namD d && decide ((els d).map My.strOf).Nodup
theorem els_tup {d : PyData} (h : isTup d = true) : d = .tuple (els d) := by cases d <;> first | rfl | cases h
theorem tupN_tup {d : PyData} {n : Nat} (h : tupN d n = true) : isTup d = true ∧ (els d).length = n := by
  unfold tupN at h
  rw [Bool.and_eq_true, decide_eq_true_eq] at h
  exact h
theorem at_get {d : PyData} {i : Nat} (h : i < (els d).length) : (els d)[i]? = some (at' d i) := by
  unfold at'
  rw [List.getD_eq_getElem?_getD, List.getElem?_eq_getElem h]; rfl
theorem okS_at {d : PyData} (h : okS d = true) (i : Nat) : okS (at' d i) = true := by
  unfold at'
  by_cases lt : i < (els d).length
  · rw [List.getD_eq_getElem?_getD, List.getElem?_eq_getElem lt]
    have hm : (els d)[i] ∈ els d := List.getElem_mem lt
    cases d with
    | tuple ds => exact okS_t h _ hm
    | _ => cases hm
  · rw [List.getD_eq_getElem?_getD, List.getElem?_eq_none (by omega)]
    decide +kernel
theorem okS_els {d : PyData} (h : okS d = true) : ∀ x ∈ els d, okS x = true := fun x hx => by
  cases d with
  | tuple ds => exact okS_t h x hx
  | _ => cases hx
theorem tupD_els {lo hi : Int} {f : PyData → Bool} {d : PyData} (h : tupD lo hi f d = true) : isTup d = true ∧ lo ≤ (els d).length ∧ ((els d).length : Int) ≤ hi ∧ ∀ x ∈ els d, f x = true := by
  cases d with
  | tuple ds =>
    have h' : (decide (lo ≤ (ds.length : Int)) && decide ((ds.length : Int) ≤ hi) && ds.all f) = true := h
    rw [Bool.and_eq_true, Bool.and_eq_true, decide_eq_true_eq, decide_eq_true_eq, List.all_eq_true] at h'
    exact ⟨rfl, h'.1.1, h'.1.2, h'.2⟩
  | _ => cases h
theorem nam_str {d : PyData} (h : namD d = true) : d = .str (My.strOf d) := by cases d <;> first | rfl | cases h
theorem dec_cast (a b : Nat) : decide ((a : Int) = (b : Int)) = decide (a = b) := by
  apply Bool.eq_iff_iff.mpr
  rw [decide_eq_true_eq, decide_eq_true_eq]
  exact Int.ofNat_inj
section
variable {X : Cx} {ρ : Rho} {a b c e : Expr} {es rest : List Expr} {d d1 d2 : PyData} {ds ds2 : List PyData} {pos p p2 p3 pc pt : Pos} {x y : Str} {k m : Bool}
/-- thing[i] -/
theorem d_at {i : Nat} {j} {n : Nat} (ha : ED X ρ a d) (h : isTup d = true) (hi : i < (els d).length) : ED X ρ (.Subscript a (.Constant (.int i) j p) pos) (at' d i) := by
  refine d_ix (ds := els d) (i := i) (ha.cast (els_tup h)) (d_int i) (at_get hi)
/-- .. as a part of a longer one -/
theorem wd_tupN {a2 : Expr} {n : Nat} {j} (G : X.mg "isinstance" = none ∧ X.mg "tuple" = none ∧ X.mg "len" = none) (h : ED X ρ a d) (hB : ED X ρ a2 d) (hr : tupN d n = true → WD X ρ (.BoolOp .Or (b :: rest) pos) m) (hg : Gl X "isinstance" := by rfl) (hgT : Gl X "tuple" := by rfl) (hgl : Gl X "len" := by rfl) {q1 q2 q3 q4 q5 q6 q7 : Pos}
    (he : starEach [a, .Name "tuple" q2] X.env = (false, eval a X.env) :: starEach [.Name "tuple" q2] X.env := by rfl) (he2 : starEach [a2] X.env = (false, eval a2 X.env) :: starEach [] X.env := by rfl)
    (hi1 : ∀ whole, isTrue (.Call (.Name "isinstance" q1) [a, .Name "tuple" q2] [] q3) X.env whole = (do let v ← whole; standAt q3; holding [v] (truthy v)) := by intro _; rfl) :
    WD X ρ (.BoolOp .Or (.UnaryOp .Not (.Call (.Name "isinstance" q1) [a, .Name "tuple" q2] [] q3) q4 :: .Compare (.Call (.Name "len" q5) [a2] [] q6) [.NotEq] [.Constant (.int n) j p] q7 :: b :: rest) pos) (!tupN d n || m) := by
  have e : (!tupN d n || m) = (!isTup d || (!decide ((els d).length = n) || m)) := by unfold tupN; cases isTup d <;> cases decide ((els d).length = n) <;> rfl
  rw [e]
  refine wd_or (td_not (td_val (d_isTup G.1 G.2.1 h hg hgT he) hi1)) fun ht => ?_
  have ht' : isTup d = true := by simpa using ht
  refine wd_or (td_cmp o_neI (d_len (ds := els d) G.2.2 (hB.cast (els_tup ht')) hgl he2) (d_int _) ⟨_, _, rfl, rfl, congrArg Bool.not (dec_cast _ _).symm⟩ (by exact nomark _)) fun hl => hr ?_
  have hl' : (els d).length = n := by simpa using hl
  unfold tupN
  rw [ht', hl', decide_eq_true rfl]; rfl
/-! promises of one argument -/
def F1 (f : PyData → Bool) : List PyData → Option PyData
  | [d] => if okS d then some (.bool (f d)) else none
  | _ => none
theorem spD_B {f : PyData → Bool} {vs : List V} {H : Hp} {Q : VK} {E : XK} (h : spD (F1 f) vs H Q E) : spB f vs H Q E := by
  obtain ⟨S, ds, d, g, hS, e, q⟩ := h
  cases g with
  | nil => cases e
  | cons g1 gs =>
    cases gs with
    | cons _ _ => cases e
    | nil =>
      rename_i v d0
      by_cases hk : okS d0 = true
      · have e' : (if okS d0 then some (PyData.bool (f d0)) else none) = some d := e
        rw [if_pos hk] at e'
        cases e'
        exact ⟨S, v, d0, rfl, g1, hk, fun H' s => q _ H' s (.bl _)⟩
      · have e' : (if okS d0 then some (PyData.bool (f d0)) else none) = some d := e
        rw [if_neg hk] at e'
        cases e'
theorem F1_of {f : PyData → Bool} {d : PyData} (h : okS d = true) : F1 f [d] = some (.bool (f d)) := if_pos h
theorem F1_len {f : PyData → Bool} (ds : List PyData) (d : PyData) (h : F1 f ds = some d) : ds.length = 1 := by
  match ds, h with
  | [_], _ => rfl
  | [], h => cases h
  | _ :: _ :: _, h => cases h
theorem F1_inv {f : PyData → Bool} {ds : List PyData} {r : PyData} (h : F1 f ds = some r) : ∃ d, ds = [d] ∧ okS d = true ∧ r = .bool (f d) := by
  match ds, h with
  | [d], h =>
    by_cases hk : okS d = true
    · have e' : (if okS d then some (PyData.bool (f d)) else none) = some r := h
      rw [if_pos hk] at e'
      exact ⟨d, rfl, hk, by cases e'; rfl⟩
    · have e' : (if okS d then some (PyData.bool (f d)) else none) = some r := h
      rw [if_neg hk] at e'
      cases e'
  | [], h => cases h
  | _ :: _ :: _, h => cases h
theorem FnOk.to {P : Program} {w : World} {K : PySem.W.Frag} {mg : Str → Option Value} {base : Heap} {k : Nat} {f : Addr} {fd : FuncData} {ps : List Str} {sp sp' : Sp} (h : FnOk P w K mg base CX0 k f fd ps sp) (i : ∀ vs H Q E, sp' vs H Q E → sp vs H Q E) : FnOk P w K mg base CX0 k f fd ps sp' :=
  ⟨fun vs H Q E q => h.len vs H Q E (i vs H Q E q), fun B out s H ar us vs Q E r e b v q => h.run B out s H ar us vs Q E r e b v (i vs H Q E q)⟩
theorem spB_D {f : PyData → Bool} {vs : List V} {H : Hp} {Q : VK} {E : XK} (hd : ∀ (S : Addr → Prop) (v : V) (d : PyData), DG S H v d → DG (fun _ => False) H v d) (h : spB f vs H Q E) : spD (F1 f) vs H (fun v H' => Q v H') E := by
  obtain ⟨S, v, d, rfl, g, hk, q⟩ := h
  refine ⟨fun _ => False, [d], .bool (f d), .cons (hd S v d g) .nil, fun _ z => z.elim, F1_of hk, fun u H' s gu => ?_⟩
  cases gu
  exact q H' s
theorem spB_D' {f : PyData → Bool} {vs : List V} {H : Hp} {Q : VK} {E : XK} (h : spB f vs H Q E) : spD (F1 f) vs H Q E :=
  spB_D (fun S v d g => g.mono (Tup.refl _) fun a o _ e => ⟨fun z => z, e⟩) h
theorem d_fn {kk j : Nat} {f : PyData → Bool} (cF : CalN X.prog X.w X.K X.mg X.base kk x (spB f)) (hr : Room j X.A) (hk : kk ≤ j) (h : ED X ρ e d) (ok : okS d = true) (hg : Gl X x := by rfl)
    (hdb : (x == ("__debug__" : Str)) = false := by decide) (he : starEach [e] X.env = (false, eval e X.env) :: starEach [] X.env := by rfl) : ED X ρ (.Call (.Name x p) [e] [] pos) (.bool (f d)) := fun S σ H Q sl q =>
  e_c cF hr hk (a_cons (h S σ H _ sl fun v H1 s1 g1 => a_nil ⟨S, v, d, rfl, g1, ok, fun H2 s2 => q _ H2 (s1.trans s2) (.bl _)⟩) he) hg hdb he rfl
theorem d_tupOf {kt k j : Nat} {f : PyData → Bool} {lo hi : Int} {el eh : Expr} (cT : CalN X.prog X.w X.K X.mg X.base kt "is_tuple_of" (spTO X.prog X.w X.K X.mg X.base k)) (cF : CalN X.prog X.w X.K X.mg X.base k y (spB f)) (hr : Room j X.A) (hk : kt ≤ j)
    (h : ED X ρ e d) (h1 : ED X ρ el (.int lo)) (h2 : ED X ρ eh (.int hi)) (ok : okS d = true) (hh : hi ≤ 1000) (hg : Gl X "is_tuple_of" := by rfl) (hgy : Gl X y := by rfl) (hdy : (y == ("__debug__" : Str)) = false := by decide)
    (s1 : starEach [e, el, eh, .Name y p2] X.env = (false, eval e X.env) :: starEach [el, eh, .Name y p2] X.env := by rfl) (s2 : starEach [el, eh, .Name y p2] X.env = (false, eval el X.env) :: starEach [eh, .Name y p2] X.env := by rfl)
    (s3 : starEach [eh, .Name y p2] X.env = (false, eval eh X.env) :: starEach [.Name y p2] X.env := by rfl) (hpl : (backTo pos (starEach [el, eh, .Name y p2] X.env)).any (·.1) = false := by rfl) :
    ED X ρ (.Call (.Name "is_tuple_of" p) [e, el, eh, .Name y p2] [] pos) (.bool (tupD lo hi f d)) := fun S σ H Q sl q => by
  obtain ⟨g, gd, gps, Fg, mgG, kg, bg⟩ := cF.ex
  refine e_c cT hr hk (a_cons (h S σ H _ sl fun v H1 t1 g1 => a_cons (h1 S σ H1 _ (sl.same t1) fun u1 H2 t2 g2 => a_cons (h2 S σ H2 _ (sl.same (t1.trans t2)) fun u2 H3 t3 g3 => a_cons (e_glob (v := .ref g) mgG rfl (a_nil ?_) hgy hdy) rfl) s3) s2) s1) hg (by decide) s1 hpl
  cases g2; cases g3
  exact ⟨S, v, d, lo, hi, g, f, rfl, ⟨gd, gps, Fg, kg, bg⟩, hh, (g1.same t2).same t3, ok, fun H4 t4 => q _ H4 (t1.trans (t2.trans (t3.trans t4))) (.bl _)⟩
theorem d_diff {kk j : Nat} {zs : List Str} (cF : CalN X.prog X.w X.K X.mg X.base kk x (spDiff X.K)) (hr : Room j X.A) (hk : kk ≤ j) (h : ED X ρ e (.list (zs.map PyData.str)) ∨ ED X ρ e (.tuple (zs.map PyData.str))) (hl : zs.length ≤ 1000) (hg : Gl X x := by rfl)
    (hdb : (x == ("__debug__" : Str)) = false := by decide) (he : starEach [e] X.env = (false, eval e X.env) :: starEach [] X.env := by rfl) : ED X ρ (.Call (.Name x p) [e] [] pos) (.bool (decide zs.Nodup)) := fun S σ H Q sl q => by
  refine e_c cF hr hk (a_cons ?_ he) hg hdb he rfl
  rcases h with h | h
  · exact h S σ H _ sl fun v H1 s1 g1 => by
      obtain ⟨a, xs, rfl, _, hs, sq⟩ := g1.seqL (K := X.K)
      rw [strsE hs] at sq
      exact a_nil ⟨a, zs, rfl, .inl sq, hl, q _ H1 s1 (.bl _)⟩
  · exact h S σ H _ sl fun v H1 s1 g1 => by
      obtain ⟨a, xs, rfl, _, hs, sq⟩ := g1.seq (K := X.K)
      rw [strsE hs] at sq
      exact a_nil ⟨a, zs, rfl, .inr sq, hl, q _ H1 s1 (.bl _)⟩
end
/-- a def of one argument, by its promise -/
theorem Fun.ok1 {P : Program} {w : World} {K : PySem.W.Frag} {mg : Str → Option Value} {base : Heap} {x qual : Str} {st : Stmt} {f : Addr} {fd : FuncData} {N : List Str} {y : Str} {k : Nat} {φ : PyData → Bool} (F : Fun K x qual st f fd) (S : FnScope N [y] (defScope st))
    (body : ∀ (cdv : Value) (B : Around) (out : List Env) (s : Shared) (H : Hp) (E : XK) (d : PyData), Room k (B.deeper (envOfC qual (defScope st) s.heap.objs.size f cdv)) → okS d = true →
      LD (cxOf CX0 P w K mg base N qual (defScope st) f cdv B out s H E).nox (startD N [d]) (defBody st) (.ret (.bool (φ d)))) : FnOk P w K mg base CX0 (k + 1) f fd [y] (spB φ) :=
  FnOk.to (Fun.okD (Fn := F1 φ) F S F1_len fun cdv B out s H E ds r hr h => by
    obtain ⟨d, rfl, hk, rfl⟩ := F1_inv h
    exact body cdv B out s H E d hr hk) fun vs H Q E h => spB_D' h
/-! more rules -/
section
variable {X : Cx} {ρ : Rho} {a b c e : Expr} {es rest : List Expr} {d d1 d2 : PyData} {ds ds2 : List PyData} {pos p p2 p3 pc pt : Pos} {x y : Str} {k m : Bool} {st : Stmt} {l l1 l2 : List Stmt}
theorem LD.cast {d' : PyData} (h : LD X ρ l (.ret d)) (q : d = d') : LD X ρ l (.ret d') := q ▸ h
theorem WD.cast {k' : Bool} (h : WD X ρ e k) (q : k = k') : WD X ρ e k' := q ▸ h
theorem wd_tupN1 {a2 : Expr} {n : Nat} {j} (G : X.mg "isinstance" = none ∧ X.mg "tuple" = none ∧ X.mg "len" = none) (h : ED X ρ a d) (hB : ED X ρ a2 d) (hg : Gl X "isinstance" := by rfl) (hgT : Gl X "tuple" := by rfl) (hgl : Gl X "len" := by rfl) {q1 q2 q3 q4 q5 q6 q7 : Pos}
    (he : starEach [a, .Name "tuple" q2] X.env = (false, eval a X.env) :: starEach [.Name "tuple" q2] X.env := by rfl) (he2 : starEach [a2] X.env = (false, eval a2 X.env) :: starEach [] X.env := by rfl)
    (hi1 : ∀ whole, isTrue (.Call (.Name "isinstance" q1) [a, .Name "tuple" q2] [] q3) X.env whole = (do let v ← whole; standAt q3; holding [v] (truthy v)) := by intro _; rfl) :
    WD X ρ (.BoolOp .Or [.UnaryOp .Not (.Call (.Name "isinstance" q1) [a, .Name "tuple" q2] [] q3) q4, .Compare (.Call (.Name "len" q5) [a2] [] q6) [.NotEq] [.Constant (.int n) j p] q7] pos) (!tupN d n) := by
  have e : (!tupN d n) = (!isTup d || !decide ((els d).length = n)) := by unfold tupN; cases isTup d <;> rfl
  rw [e]
  refine wd_or (td_not (td_val (d_isTup G.1 G.2.1 h hg hgT he) hi1)) fun ht => wd_or1 ?_
  have ht' : isTup d = true := by simpa using ht
  exact td_cmp o_neI (d_len (ds := els d) G.2.2 (hB.cast (els_tup ht')) hgl he2) (d_int _) ⟨_, _, rfl, rfl, congrArg Bool.not (dec_cast _ _).symm⟩ (by exact nomark _)
/-- not isinstance(x, tuple) or not lo <= len(x) <= hi -/
theorem wd_tupB {a2 : Expr} {lo hi : Int} {el eh : Expr} (G : X.mg "isinstance" = none ∧ X.mg "tuple" = none ∧ X.mg "len" = none) (h : ED X ρ a d) (hB : ED X ρ a2 d) (h1 : ED X ρ el (.int lo)) (h2 : ED X ρ eh (.int hi)) (hg : Gl X "isinstance" := by rfl) (hgT : Gl X "tuple" := by rfl) (hgl : Gl X "len" := by rfl) {q1 q2 q3 q4 q5 q6 q7 q8 : Pos}
    (he : starEach [a, .Name "tuple" q2] X.env = (false, eval a X.env) :: starEach [.Name "tuple" q2] X.env := by rfl) (he2 : starEach [a2] X.env = (false, eval a2 X.env) :: starEach [] X.env := by rfl)
    (hi1 : ∀ whole, isTrue (.Call (.Name "isinstance" q1) [a, .Name "tuple" q2] [] q3) X.env whole = (do let v ← whole; standAt q3; holding [v] (truthy v)) := by intro _; rfl)
    (hm : lastMarks [.LtE, .LtE] [.Call (.Name "len" q5) [a2] [] q6, eh] = false := by with_unfolding_all rfl) :
    WD X ρ (.BoolOp .Or [.UnaryOp .Not (.Call (.Name "isinstance" q1) [a, .Name "tuple" q2] [] q3) q4, .UnaryOp .Not (.Compare el [.LtE, .LtE] [.Call (.Name "len" q5) [a2] [] q6, eh] q7) q8] pos) (!tupD lo hi (fun _ => true) d) := by
  have e : (!tupD lo hi (fun _ => true) d) = (!isTup d || !(decide (lo ≤ ((els d).length : Int)) && decide (((els d).length : Int) ≤ hi))) := by
    cases d with
    | tuple ds =>
      show (!(decide (lo ≤ (ds.length : Int)) && decide ((ds.length : Int) ≤ hi) && ds.all fun _ => true)) = (false || !(decide (lo ≤ (ds.length : Int)) && decide ((ds.length : Int) ≤ hi)))
      have : (ds.all fun _ => true) = true := by simp
      rw [this, Bool.and_true, Bool.false_or]
    | _ => rfl
  rw [e]
  refine wd_or (td_not (td_val (d_isTup G.1 G.2.1 h hg hgT he) hi1)) fun ht => wd_or1 (td_not ?_)
  have ht' : isTup d = true := by simpa using ht
  exact td_btw h1 (d_len (ds := els d) G.2.2 (hB.cast (els_tup ht')) hgl he2) (fun _ => h2) hm
theorem tup2 (h : tupN d 2 = true) : d = .tuple [at' d 0, at' d 1] := by
  obtain ⟨h1, h2⟩ := tupN_tup h
  cases d with
  | tuple ds => match ds, h2 with | [_, _], _ => rfl
  | _ => cases h1
theorem tup3 (h : tupN d 3 = true) : d = .tuple [at' d 0, at' d 1, at' d 2] := by
  obtain ⟨h1, h2⟩ := tupN_tup h
  cases d with
  | tuple ds => match ds, h2 with | [_, _, _], _ => rfl
  | _ => cases h1
theorem tup4 (h : tupN d 4 = true) : d = .tuple [at' d 0, at' d 1, at' d 2, at' d 3] := by
  obtain ⟨h1, h2⟩ := tupN_tup h
  cases d with
  | tuple ds => match ds, h2 with | [_, _, _, _], _ => rfl
  | _ => cases h1
theorem map_bool (g : PyData → Bool) (ds : List PyData) : ds.map (fun x => PyData.bool (g x)) = (ds.map g).map PyData.bool := by rw [List.map_map]; rfl
section
variable {elt iter : Expr} {scope : Scope}
theorem d_allT (j : Nat) (g : PyData → Bool) (hm : X.mg "all" = none) (hN : X.N.Nodup) (okb : BlkOk X.N X.env.scope scope [(x, j)]) (h : ED X ρ iter (.tuple ds)) (l : ds.length ≤ 1000) (hel : ∀ d ∈ ds, BD X scope (ρ.set j (some d)) elt (.bool (g d)))
    (hg : ∀ (s : Shared) (H : Hp) (C : Addr) (cl : List (Str × Addr)) (fp : List Addr), PG (X.blk s H scope (compEnvC scope cl C X.env) fp) (.Name x pt) (gName j))
    (hgl : Gl X "all" := by rfl) (hc : X.calm = true := by rfl) (hs : ∀ z, foldedSetIterable iter X.env z = pure z := by intro _; rfl)
    (he : starEach [.ListComp elt [⟨.Name x pt, iter, [], 0⟩] scope pc] X.env = (false, eval (.ListComp elt [⟨.Name x pt, iter, [], 0⟩] scope pc) X.env) :: starEach [] X.env := by rfl) :
    ED X ρ (.Call (.Name "all" p) [.ListComp elt [⟨.Name x pt, iter, [], 0⟩] scope pc] [] pos) (.bool (ds.all g)) := by
  have h1 := d_all hm ((d_lcT (pos := pc) (n := 0) j (fun d => .bool (g d)) hN okb h l hel hg hc hs).cast (by rw [map_bool])) hgl hc he (p := p) (pos := pos)
  exact h1.cast (by rw [List.all_map]; rfl)
theorem d_anyT (j : Nat) (g : PyData → Bool) (hm : X.mg "any" = none) (hN : X.N.Nodup) (okb : BlkOk X.N X.env.scope scope [(x, j)]) (h : ED X ρ iter (.tuple ds)) (l : ds.length ≤ 1000) (hel : ∀ d ∈ ds, BD X scope (ρ.set j (some d)) elt (.bool (g d)))
    (hg : ∀ (s : Shared) (H : Hp) (C : Addr) (cl : List (Str × Addr)) (fp : List Addr), PG (X.blk s H scope (compEnvC scope cl C X.env) fp) (.Name x pt) (gName j))
    (hgl : Gl X "any" := by rfl) (hc : X.calm = true := by rfl) (hs : ∀ z, foldedSetIterable iter X.env z = pure z := by intro _; rfl)
    (he : starEach [.ListComp elt [⟨.Name x pt, iter, [], 0⟩] scope pc] X.env = (false, eval (.ListComp elt [⟨.Name x pt, iter, [], 0⟩] scope pc) X.env) :: starEach [] X.env := by rfl) :
    ED X ρ (.Call (.Name "any" p) [.ListComp elt [⟨.Name x pt, iter, [], 0⟩] scope pc] [] pos) (.bool (ds.any g)) := by
  have h1 := d_any hm ((d_lcT (pos := pc) (n := 0) j (fun d => .bool (g d)) hN okb h l hel hg hc hs).cast (by rw [map_bool])) hgl hc he (p := p) (pos := pos)
  exact h1.cast (by rw [List.any_map]; rfl)
end
theorem tupD_no {lo hi : Int} {f : PyData → Bool} (h : tupD lo hi (fun _ => true) d = false) : tupD lo hi f d = false := by
  cases d with
  | tuple ds =>
    have h' : (decide (lo ≤ (ds.length : Int)) && decide ((ds.length : Int) ≤ hi) && ds.all fun _ => true) = false := h
    have e : (ds.all fun _ => true) = true := by simp
    rw [e, Bool.and_true] at h'
    show (decide (lo ≤ (ds.length : Int)) && decide ((ds.length : Int) ≤ hi) && ds.all f) = false
    rw [h']; rfl
  | _ => rfl
theorem tupD_yes {lo hi : Int} {f : PyData → Bool} (h : tupD lo hi (fun _ => true) d = true) : tupD lo hi f d = (els d).all f := by
  cases d with
  | tuple ds =>
    have h' : (decide (lo ≤ (ds.length : Int)) && decide ((ds.length : Int) ≤ hi) && ds.all fun _ => true) = true := h
    have e : (ds.all fun _ => true) = true := by simp
    rw [e, Bool.and_true] at h'
    show (decide (lo ≤ (ds.length : Int)) && decide ((ds.length : Int) ≤ hi) && ds.all f) = ds.all f
    rw [h']; rfl
  | _ => cases h
theorem d_subI {i j : Int} (ha : ED X ρ a (.int i)) (hb : ED X ρ b (.int j)) : ED X ρ (.BinOp a .Sub b pos) (.int (i - j)) := fun S σ H Q sl q =>
  e_subI (ha S σ H _ sl fun v H1 s1 g1 => hb S σ H1 _ (sl.same s1) fun u H2 s2 g2 => by cases g1; cases g2; exact ⟨i, j, rfl, rfl, q _ H2 (s1.trans s2) (.int _)⟩)
theorem d_addI {i j : Int} (ha : ED X ρ a (.int i)) (hb : ED X ρ b (.int j)) : ED X ρ (.BinOp a .Add b pos) (.int (i + j)) := fun S σ H Q sl q =>
  e_addI (ha S σ H _ sl fun v H1 s1 g1 => hb S σ H1 _ (sl.same s1) fun u H2 s2 g2 => by cases g1; cases g2; exact ⟨i, j, rfl, rfl, q _ H2 (s1.trans s2) (.int _)⟩)
theorem nb {b : Bool} (h : (!b) = true) : b = false := by cases b with | false => rfl | true => cases h
theorem nb' {b : Bool} (h : (!b) = false) : b = true := by cases b with | true => rfl | false => cases h
/-- the labels: [x[i] for x in a tuple] -/
theorem labs_data {d : PyData} {i : Nat} (h : ∀ x ∈ els d, ∃ z, at' x i = .str z) : (els d).map (fun x => at' x i) = (labs d i).map PyData.str := by
  unfold labs
  rw [List.map_map]
  refine List.map_congr_left fun x hx => ?_
  obtain ⟨z, e⟩ := h x hx
  show at' x i = PyData.str (My.strOf (at' x i))
  rw [e]; rfl
theorem FnOk.up {P : Program} {w : World} {K : PySem.W.Frag} {mg : Str → Option Value} {base : Heap} {k k' : Nat} {f : Addr} {fd : FuncData} {ps : List Str} {sp : Sp} (h : FnOk P w K mg base CX0 k f fd ps sp) (l : k ≤ k') : FnOk P w K mg base CX0 k' f fd ps sp :=
  ⟨h.len, fun B out s H ar us vs Q E r e b v q => h.run B out s H ar us vs Q E (r.mono l) e b v q⟩
end
end My

namespace K04
open PySem PySem.Spec PyProof.Rows L2 My

/-! ### the pen -/
def top (i : Nat) : Stmt := PySem.Challenge.pw_boundonce_k04_statements_by_form.main.body.getD i (.Pass ⟨0, 0, 0, 0⟩)
abbrev sPen : Stmt := top 29
abbrev sNext : Stmt := top 30
abbrev sDraw : Stmt := top 31
/-- the pen at p: the list (at L) of the script's first ints, how many were drawn, what is left of the last -/
def Pen (H : Hp) (p L : Addr) (n : Nat) : Prop := ∃ (ns : List Int) (i r : Int), H p = some (.lst [.ref L, .int i, .int r]) ∧ H L = some (.lst (ns.map V.int)) ∧ ns.length ≤ 100 ∧ 0 ≤ i ∧ i ≤ n ∧ L ≠ p
theorem Pen.mono {H : Hp} {p L : Addr} {n m : Nat} (h : Pen H p L n) (l : n ≤ m) : Pen H p L m := by
  obtain ⟨ns, i, r, h1, h2, h3, h4, h5, h6⟩ := h
  exact ⟨ns, i, r, h1, h2, h3, h4, by omega, h6⟩
theorem Pen.at {H H' : Hp} {p L : Addr} {n : Nat} (h : Pen H p L n) (e1 : H' p = H p) (e2 : H' L = H L) : Pen H' p L n := by
  obtain ⟨ns, i, r, h1, h2, h3⟩ := h
  exact ⟨ns, i, r, e1.trans h1, e2.trans h2, h3⟩
theorem Pen.same {H H' : Hp} {p L : Addr} {n : Nat} (h : Pen H p L n) (e : Same H H') : Pen H' p L n := by
  obtain ⟨ns, i, r, h1, h2, h3⟩ := h
  exact ⟨ns, i, r, e _ _ h1, e _ _ h2, h3⟩
theorem Pen.p {H : Hp} {p L : Addr} {n : Nat} (h : Pen H p L n) : ∃ xs, H p = some (.lst xs) := by
  obtain ⟨ns, i, r, h1, _⟩ := h
  exact ⟨_, h1⟩
theorem Pen.l {H : Hp} {p L : Addr} {n : Nat} (h : Pen H p L n) : ∃ xs, H L = some (.lst xs) := by
  obtain ⟨ns, i, r, _, h1, _⟩ := h
  exact ⟨_, h1⟩
/-- an object that is written and is not the pen's -/
theorem Pen.upd {H : Hp} {p L q : Addr} {n : Nat} {o : HO} (h : Pen H p L n) (h1 : q ≠ p) (h2 : q ≠ L) : Pen (upd H q o) p L n := h.at (upd_ne h1.symm) (upd_ne h2.symm)
theorem Pen.newP {H : Hp} {p L q : Addr} {n : Nat} (h : Pen H p L n) (hq : H q = none) : q ≠ p := fun e => by obtain ⟨xs, h1⟩ := h.p; rw [e, h1] at hq; cases hq
theorem Pen.newL {H : Hp} {p L q : Addr} {n : Nat} (h : Pen H p L n) (hq : H q = none) : q ≠ L := fun e => by obtain ⟨xs, h1⟩ := h.l; rw [e, h1] at hq; cases hq
theorem Pen.tups {H H' : Hp} {p L : Addr} {n : Nat} (h : Pen H p L n) (b : But p H H') : Tup H H' := by obtain ⟨xs, h1⟩ := h.p; exact b.tups h1
theorem cut_len (ns : List Int) (k : Int) : ∃ ms : List Int, cutV (ns.map V.int) none (some k) = ms.map V.int ∧ ms.length ≤ ns.length := by
  refine ⟨(ns.drop (HT.sIx (ns.map V.int).length 0 none)).take (HT.sIx (ns.map V.int).length (ns.map V.int).length (some k) - HT.sIx (ns.map V.int).length 0 none), ?_, ?_⟩
  · unfold cutV
    rw [← List.map_drop, ← List.map_take]
  · rw [List.length_take, List.length_drop]
    omega
/-- what the top leaves of the built-in names -/
structure Bl (mg : Str → Option Value) : Prop where
  list : mg "list" = none
  len : mg "len" = none
  int : mg "int" = none
def spPen (K : PySem.W.Frag) : Sp := fun vs H Q _ => ∃ (a : Addr) (ns : List Int), vs = [.ref a] ∧ SqL K H a (ns.map V.int) ∧ ns.length ≤ 63 ∧ ∀ p L H', Same H H' → H p = none → H L = none → Pen H' p L 0 → Q (.ref p) H'
def spNext : Sp := fun vs H Q _ => ∃ (p L : Addr) (n : Nat), vs = [.ref p] ∧ Pen H p L n ∧ n < 2 ^ 40 ∧ ∀ (z : Int) H', But p H H' → Pen H' p L (n + 1) → Q (.int z) H'
def spDraw : Sp := fun vs H Q _ => ∃ (p L : Addr) (n : Nat) (u : Int), vs = [.ref p, .int u] ∧ Pen H p L n ∧ n < 2 ^ 40 ∧ 0 < u ∧ u < 1073741824 ∧ ∀ (d : Nat) H', But p H H' → Pen H' p L (n + 1) → (d : Int) < u → Q (.int d) H'
section
variable {P : Program} {w : World} {K : PySem.W.Frag} {mg : Str → Option Value} {base : Heap} {f fd : _}
theorem scPen : FnScope ["_law_script"] ["_law_script"] (defScope sPen) := ⟨rfl, rfl, rfl, by decide +kernel, rfl, by decide +kernel, by decide +kernel⟩
theorem ok_pen {f : Addr} {fd : FuncData} (F : Fun K "_law_pen" "_law_pen" sPen f fd) (G : Bl mg) : FnOk P w K mg base CX0 1 f fd ["_law_script"] (spPen K) := by
  refine Fun.okW F scPen (fun vs H Q E h => by obtain ⟨a, ns, rfl, _⟩ := h; rfl) (fun cdv B out s H vs Q E hr h => ?_)
  obtain ⟨a, ns, rfl, hS, hl, q⟩ := h
  obtain ⟨ms, em, lm⟩ := cut_len ns 60
  refine l_one (s_ret (e_lst (a_cons (e_callT call_list_of G.list PyProof.Rows.boot_list (a_cons (e_slL (e_var 0 rfl (e_int ⟨60, a, _, rfl, rfl, hS, fun c hc => ?_⟩))))))))
  refine a_nil ⟨c, _, rfl, .inl (.inl (.inl upd_same)), fun L hL => ?_⟩
  refine a_cons (e_int (a_cons (e_int (a_nil ⟨by show 3 ≤ sizeLine; decide, fun p hp => ?_⟩))))
  refine q p L _ ((same_new hc).trans ((same_new hL).trans (same_new hp))) ((same_new hc).free ((same_new hL).free hp)) ((same_new hc).free hL) ?_
  exact ⟨ms, 0, 0, upd_same, by rw [upd_ne (ne_of_none upd_same hp), upd_same, em], by omega, by decide, by decide, ne_of_none upd_same hp⟩
theorem scNext : FnScope ["_law_pen_here", "_law_index", "_law_cell_here", "_law_some_here", "_law_more", "_law_top"] ["_law_pen_here"] (defScope sNext) := ⟨rfl, rfl, rfl, by decide +kernel, rfl, by decide +kernel, by decide +kernel⟩
theorem at0 {α : Type} (a b c : α) : atI [a, b, c] 0 = some a := rfl
theorem at1 {α : Type} (a b c : α) : atI [a, b, c] 1 = some b := rfl
theorem at2 {α : Type} (a b c : α) : atI [a, b, c] 2 = some c := rfl
theorem dp_int {H : Hp} : ∀ ns : List Int, DpAll K H (ns.map V.int) (ns.map PyData.int)
  | [] => .nil
  | n :: ns => .cons (.int n) (dp_int ns)
theorem shaped_ints : ∀ ns : List Int, SeqAt.shaped (.list (ns.map PyData.int)) = true := fun ns => by
  have h1 : ∀ ms : List Int, PyData.canLayAll0 (ms.map PyData.int) = true := fun ms => by
    induction ms with
    | nil => rfl
    | cons m ms ih => show (true && PyData.canLayAll0 (ms.map PyData.int)) = true; rw [ih]; rfl
  have h2 : ∀ ms : List Int, PyData.depthAll (ms.map PyData.int) = 0 := fun ms => by
    induction ms with
    | nil => rfl
    | cons m ms ih => show max 0 (PyData.depthAll (ms.map PyData.int)) = 0; rw [ih]; rfl
  show (PyData.canLayAll0 (ns.map PyData.int) && decide (PyData.depthAll (ns.map PyData.int) + 1 ≤ 64)) = true
  rw [h1, h2]
  rfl
theorem ok_next {f : Addr} {fd : FuncData} (F : Fun K "_law_next" "_law_next" sNext f fd) (G : Bl mg) : FnOk P w K mg base CX0 1 f fd ["_law_pen_here"] spNext := by
  refine Fun.okW F scNext (fun vs H Q E h => by obtain ⟨a, b, n, rfl, _⟩ := h; rfl) (fun cdv B out s H vs Q E hr h => ?_)
  obtain ⟨p, L, n, rfl, ⟨ns, i, r, h1, h2, h3, h4, h5, h6⟩, hn, q⟩ := h
  -- index = pen[1]; pen[1] = index + 1
  refine l_cons (s_set 1 (e_ixL (e_var 0 rfl (e_int ⟨p, _, 1, _, rfl, rfl, .inl (.inl h1), at1 _ _ _, ?_⟩))) scNext.nd)
  refine l_cons (s_setL (e_addI (e_var 1 rfl (e_int ⟨i, 1, rfl, rfl, e_var 0 rfl (e_int ⟨p, _, 1, 1, rfl, rfl, h1, rfl, ?_⟩)⟩))))
  -- cell = index * 1087 + 73
  refine l_cons (s_set 2 (e_addI (e_mulI (e_var 1 rfl (e_int ⟨i, 1087, rfl, rfl, .inr (by decide), e_int ⟨_, 73, rfl, rfl, ?_⟩⟩)))) scNext.nd)
  have g1 : (upd H p (.lst [.ref L, .int (i + 1), .int r])) p = some (.lst [.ref L, .int (i + 1), .int r]) := upd_same
  have g2 : (upd H p (.lst [.ref L, .int (i + 1), .int r])) L = some (.lst (ns.map V.int)) := by rw [upd_ne h6]; exact h2
  have hb : But p H (upd H p (.lst [.ref L, .int (i + 1), .int r])) := But.upd
  show WL _ _ _ [some (.ref p), some (.int i), some (.int (i * 1087 + 73)), none, none, none] (upd H p (.lst [.ref L, .int (i + 1), .int r]))
  generalize i * 1087 + 73 = cell0
  generalize (upd H p (.lst [.ref L, .int (i + 1), .int r])) = H1 at g1 g2 hb
  have hi64 : -(2 ^ 64) < i ∧ i < 2 ^ 64 := ⟨by omega, by omega⟩
  -- if pen[0] != []: cell = pen[0][int(index) % len(pen[0])]
  refine l_cons (WS.cut (P := fun σ H2 => ∃ cell : Int, σ = [some (.ref p), some (.int i), some (.int cell), none, none, none] ∧ Same H1 H2) (s_if (t_neD hr.units (e_ixL (e_var 0 rfl (e_int ⟨p, _, 0, _, rfl, rfl, .inl (.inl g1), at0 _ _ _, e_lst (a_nil ⟨Nat.zero_le _, fun c hc => ?_⟩)⟩))))) ?_)
  · have s1 : Same H1 (upd H1 c (.lst [])) := same_new hc
    refine ⟨.list (ns.map PyData.int), .list [], .lst (.inl (.inl (s1 _ _ g2))) (dp_int ns), .lst (.inl (.inl upd_same)) .nil, shaped_ints ns, rfl, fun e => ?_, fun _ => l_nil ⟨cell0, rfl, s1⟩⟩
    have hpos : 0 < ns.length := by
      cases ns with
      | nil => cases e
      | cons x xs => exact Nat.succ_pos _
    refine l_one (s_set 2 (e_ixL (e_ixL (e_var 0 rfl (e_int ⟨p, _, 0, _, rfl, rfl, .inl (.inl (s1 _ _ g1)), at0 _ _ _, e_modI (e_intI G.int (e_var 1 rfl (.inl ⟨i, rfl, e_len G.len (e_ixL (e_var 0 rfl (e_int ⟨p, _, 0, _, rfl, rfl, .inl (.inl (s1 _ _ g1)), at0 _ _ _, L, _, rfl, .inl (.inl (.inl (s1 _ _ g2))), i, _, rfl, rfl, ?_, ?_⟩)))⟩)))⟩)))) scNext.nd)
    · rw [List.length_map]
      omega
    · have e1 : i % ((ns.map V.int).length : Int) = ((i % (ns.length : Int)).toNat : Nat) := by
        rw [List.length_map]
        have := Int.emod_nonneg i (show (ns.length : Int) ≠ 0 by omega)
        omega
      have e2 : (i % (ns.length : Int)).toNat < ns.length := by
        have := Int.emod_lt_of_pos i (show (0 : Int) < (ns.length : Int) by omega)
        have := Int.emod_nonneg i (show (ns.length : Int) ≠ 0 by omega)
        omega
      refine ⟨L, ns.map V.int, _, .int (ns[(i % (ns.length : Int)).toNat]), rfl, rfl, .inl (.inl (s1 _ _ g2)), ?_, ⟨_, rfl, s1⟩⟩
      rw [e1]
      exact atI_nat (by rw [List.getElem?_map, List.getElem?_eq_getElem e2]; rfl)
  rintro σ H2 ⟨cell, rfl, s2⟩
  have k1 := s2 _ _ g1
  have k2 := s2 _ _ g2
  have fin : ∀ (z : Int) H3, Same H2 H3 → Q (.int z) H3 := fun z H3 s3 => q z H3 (hb.trans (But.of (s2.trans s3))) ⟨ns, i + 1, r, s3 _ _ k1, s3 _ _ k2, h3, by omega, by omega, h6⟩
  -- if index < len(pen[0]) and cell >= 10 ** 18: return cell
  refine l_cons (WS.cut (P := fun σ H3 => σ = [some (.ref p), some (.int i), some (.int cell), none, none, none] ∧ H3 = H2) (s_if (t_w (w_and (t_lt (e_var 1 rfl (e_len G.len (e_ixL (e_var 0 rfl (e_int ⟨p, _, 0, _, rfl, rfl, .inl (.inl k1), at0 _ _ _, L, _, rfl, .inl (.inl (.inl k2)), i, _, rfl, rfl, fun _ => w_and1 (t_ge (e_var 2 rfl (e_op op_pow (e_int (e_int ⟨10, 18, rfl, rfl, ⟨by decide, by decide, by decide⟩, cell, _, rfl, rfl, ?_⟩))))), fun _ => ?_⟩))))))))) ?_)
  case refine_2 => exact ⟨fun e => Bool.noConfusion e, fun _ => l_nil ⟨rfl, rfl⟩⟩
  case refine_1 => exact ⟨fun _ => l_one (s_ret (e_var 2 rfl (fin _ _ (Same.refl _)))), fun _ => l_nil ⟨rfl, rfl⟩⟩
  rintro σ H3 ⟨rfl, rfl⟩
  refine l_cons (s_set 3 (e_modI (e_intI G.int (e_addI (e_addI (e_modI (e_intI G.int (e_var 2 rfl (.inl ⟨cell, rfl, e_int ⟨_, 2147483587, rfl, rfl, by decide, e_mulI (e_var 1 rfl (e_int ⟨i, 30133, rfl, rfl, .inr (by decide), _, _, rfl, rfl, e_int ⟨_, 101, rfl, rfl, .inl ⟨_, rfl, e_int ⟨_, 2147483587, rfl, rfl, by decide, ?_⟩⟩⟩⟩))⟩⟩)))))))) scNext.nd)
  generalize hx : (cell % 2147483587 + i * 30133 + 101) % 2147483587 = x
  have x0 : 0 ≤ x := by rw [← hx]; exact Int.emod_nonneg _ (by decide)
  have x1 : x < 2147483587 := by rw [← hx]; exact Int.emod_lt_of_pos _ (by decide)
  refine l_cons (s_set 4 (e_modI (e_intI G.int (e_addI (e_addI (e_mulI (e_var 3 rfl (e_var 3 rfl ⟨x, x, rfl, rfl, .inl ⟨by omega, by omega⟩, e_mulI (e_var 1 rfl (e_int ⟨i, 70111, rfl, rfl, .inr (by decide), _, _, rfl, rfl, e_int ⟨_, 73, rfl, rfl, .inl ⟨_, rfl, e_int ⟨_, 2147483563, rfl, rfl, by decide, ?_⟩⟩⟩⟩))⟩))))))) scNext.nd)
  generalize hy : (x * x + i * 70111 + 73) % 2147483563 = y
  have y0 : 0 ≤ y := by rw [← hy]; exact Int.emod_nonneg _ (by decide)
  have y1 : y < 2147483563 := by rw [← hy]; exact Int.emod_lt_of_pos _ (by decide)
  refine l_cons (s_set 5 (e_modI (e_intI G.int (e_addI (e_addI (e_mulI (e_var 4 rfl (e_var 4 rfl ⟨y, y, rfl, rfl, .inl ⟨by omega, by omega⟩, e_var 3 rfl ⟨_, x, rfl, rfl, e_mulI (e_mulI (e_var 1 rfl (e_var 1 rfl ⟨i, i, rfl, rfl, .inl hi64, e_int ⟨_, 47, rfl, rfl, .inr (by decide), _, _, rfl, rfl, .inl ⟨_, rfl, e_int ⟨_, 2147483549, rfl, rfl, by decide, ?_⟩⟩⟩⟩)))⟩⟩))))))) scNext.nd)
  generalize hz : (y * y + x + i * i * 47) % 2147483549 = z
  refine l_one (s_ret (e_addI (e_mulI (e_addI (e_mulI (e_var 5 rfl (e_int ⟨z, 2147483587, rfl, rfl, .inr (by decide), e_var 4 rfl ⟨_, y, rfl, rfl, e_int ⟨_, 2147483563, rfl, rfl, .inr (by decide), e_var 3 rfl ⟨_, x, rfl, rfl, ?_⟩⟩⟩⟩)))))))
  exact fin _ _ (Same.refl _)
theorem scDraw : FnScope ["_law_pen_here", "_law_under", "_law_digit"] ["_law_pen_here", "_law_under"] (defScope sDraw) := ⟨rfl, rfl, rfl, by decide +kernel, rfl, by decide +kernel, by decide +kernel⟩
theorem ok_draw {f : Addr} {fd : FuncData} (F : Fun K "_law_draw" "_law_draw" sDraw f fd) (G : Bl mg) (N : CalN P w K mg base 1 "_law_next" spNext) : FnOk P w K mg base CX0 2 f fd ["_law_pen_here", "_law_under"] spDraw := by
  refine Fun.okW F scDraw (fun vs H Q E h => by obtain ⟨a, b, n, u, rfl, _⟩ := h; rfl) (fun cdv B out s H vs Q E hr h => ?_)
  obtain ⟨p, L, n, u, rfl, Pn, hn, u0, u1, q⟩ := h
  obtain ⟨ns, i, r, h1, h2, h3, h4, h5, h6⟩ := id Pn
  -- if pen[2] < under: pen[2] = next(pen)
  refine l_cons (WS.cut (P := fun σ H2 => σ = [some (.ref p), some (.int u), none] ∧ Pen H2 p L (n + 1) ∧ But p H H2) (s_if (t_lt (e_ixL (e_var 0 rfl (e_int ⟨p, _, 2, _, rfl, rfl, .inl (.inl h1), at2 _ _ _, e_var 1 rfl ⟨r, u, rfl, rfl, fun _ => ?_, fun _ => l_nil ⟨rfl, Pn.mono (Nat.le_succ _), But.refl _ _⟩⟩⟩))))) ?_)
  · refine l_one (s_setL (e_c N hr (by decide) (a_cons (e_var 0 rfl (a_nil ⟨p, L, n, rfl, Pn, hn, fun z H2 b2 P2 => ?_⟩)))))
    obtain ⟨ns', i', r', g1, g2, g3, g4, g5, g6⟩ := P2
    refine e_var 0 rfl (e_int ⟨p, _, 2, 2, rfl, rfl, g1, rfl, rfl, ⟨ns', i', z, upd_same, by rw [upd_ne g6]; exact g2, g3, g4, g5, g6⟩, b2.trans But.upd⟩)
  rintro σ H2 ⟨rfl, P2, b2⟩
  obtain ⟨ns', i', r', g1, g2, g3, g4, g5, g6⟩ := P2
  refine l_cons (s_set 2 (e_modI (e_intI G.int (e_ixL (e_var 0 rfl (e_int ⟨p, _, 2, _, rfl, rfl, .inl (.inl g1), at2 _ _ _, .inl ⟨r', rfl, e_var 1 rfl ⟨r', u, rfl, rfl, u0, ?_⟩⟩⟩))))) scDraw.nd)
  refine l_cons (s_setL (e_divI (e_ixL (e_var 0 rfl (e_int ⟨p, _, 2, _, rfl, rfl, .inl (.inl g1), at2 _ _ _, e_var 1 rfl ⟨r', u, rfl, rfl, ⟨u0, u1⟩, e_var 0 rfl (e_int ⟨p, _, 2, 2, rfl, rfl, g1, rfl, ?_⟩)⟩⟩)))))
  have e0 := Int.emod_nonneg r' (show u ≠ 0 by omega)
  have e1 := Int.emod_lt_of_pos r' u0
  refine l_one (s_ret (e_var 2 rfl ?_))
  have en : r' % u = ((r' % u).toNat : Nat) := by omega
  show Q (.int (r' % u)) _
  rw [en]
  exact q _ _ (b2.trans But.upd) ⟨ns', i', r' / u, upd_same, by rw [upd_ne g6]; exact g2, g3, g4, g5, g6⟩ (by omega)
end
end K04

namespace My
open PySem PySem.Spec PyProof.Rows L2
def cutD (ds : List PyData) (lo hi : Option Int) : List PyData := (ds.drop (HT.sIx ds.length 0 lo)).take (HT.sIx ds.length ds.length hi - HT.sIx ds.length 0 lo)
theorem DGs.takeG {S : Addr → Prop} {H : Hp} : ∀ {vs : List V} {ds : List PyData} (n : Nat), DGs S H vs ds → DGs S H (vs.take n) (ds.take n)
  | _, _, 0, _ => by simp only [List.take_zero]; exact .nil
  | _, _, _ + 1, .nil => .nil
  | _, _, n + 1, .cons h hs => .cons h (hs.takeG n)
theorem DGs.dropG {S : Addr → Prop} {H : Hp} : ∀ {vs : List V} {ds : List PyData} (n : Nat), DGs S H vs ds → DGs S H (vs.drop n) (ds.drop n)
  | _, _, 0, h => h
  | _, _, _ + 1, .nil => .nil
  | _, _, n + 1, .cons _ hs => hs.dropG n
theorem DGs.cut {S : Addr → Prop} {H : Hp} {vs : List V} {ds : List PyData} (h : DGs S H vs ds) (lo hi : Option Int) : DGs S H (cutV vs lo hi) (cutD ds lo hi) := by
  unfold cutV cutD
  rw [← h.length]
  exact (h.dropG _).takeG _
theorem cut_whole {ds : List PyData} {lo hi : Option Int} (h : HT.sIx ds.length 0 lo = 0 ∧ HT.sIx ds.length ds.length hi = ds.length) : cutD ds lo hi = ds := by
  unfold cutD
  rw [h.1, h.2, Nat.sub_zero, List.drop_zero, List.take_length]
section
variable {X : Cx} {ρ : Rho} {a b c e lo hi : Expr} {es rest : List Expr} {d d1 d2 : PyData} {ds ds2 : List PyData} {pos p p2 p3 pc pt : Pos} {x y : Str} {k m : Bool} {st : Stmt} {l l1 l2 : List Stmt}
theorem slT_end {S : Addr → Prop} {H H2 : Hp} {Q : VK} {v : V} {lo hi : Option Int} (s1 : Same H H2) (g1 : DG S H2 v (.tuple ds)) (q : ∀ v H', Same H H' → DG S H' v (.tuple (cutD ds lo hi)) → Q v H') : rSlA X.K v lo hi H2 Q := by
  obtain ⟨a, xs, rfl, ha, hs, sq⟩ := g1.seq (K := X.K)
  refine ⟨a, xs, rfl, sq, fun hw => ?_, fun _ p hp => q _ _ (s1.trans (same_new hp)) (.tup upd_same ((hs.cut lo hi).same (same_new hp)))⟩
  rw [hs.length] at hw
  refine q _ H2 s1 ?_
  rw [cut_whole hw]
  exact .tup ha hs
theorem d_slFrom {i : Int} (h : ED X ρ e (.tuple ds)) (h1 : ED X ρ lo (.int i)) : ED X ρ (.Subscript e (.Slice (some lo) none none p2) pos) (.tuple (cutD ds (some i) none)) := fun S σ H Q sl q =>
  toE (pe_slice sl_tupA pE (po_some pE) po_none) (h S σ H _ sl fun v H1 s1 g1 => h1 S σ H1 _ (sl.same s1) fun u H2 s2 g2 => by cases g2; exact ⟨i, rfl, slT_end (s1.trans s2) (g1.same s2) q⟩)
theorem d_slTo {i : Int} (h : ED X ρ e (.tuple ds)) (h1 : ED X ρ hi (.int i)) : ED X ρ (.Subscript e (.Slice none (some hi) none p2) pos) (.tuple (cutD ds none (some i))) := fun S σ H Q sl q =>
  toE (pe_slice sl_tupA pE po_none (po_some pE)) (h S σ H _ sl fun v H1 s1 g1 => h1 S σ H1 _ (sl.same s1) fun u H2 s2 g2 => by cases g2; exact ⟨i, rfl, slT_end (s1.trans s2) (g1.same s2) q⟩)
theorem d_sl2 {i j : Int} (h : ED X ρ e (.tuple ds)) (h1 : ED X ρ lo (.int i)) (h2 : ED X ρ hi (.int j)) : ED X ρ (.Subscript e (.Slice (some lo) (some hi) none p2) pos) (.tuple (cutD ds (some i) (some j))) := fun S σ H Q sl q =>
  toE (pe_slice sl_tupA pE (po_some pE) (po_some pE)) (h S σ H _ sl fun v H1 s1 g1 => h1 S σ H1 _ (sl.same s1) fun u H2 s2 g2 => by
    cases g2
    exact ⟨i, rfl, h2 S σ H2 _ (sl.same (s1.trans s2)) fun u2 H3 s3 g3 => by cases g3; exact ⟨j, rfl, slT_end (s1.trans (s2.trans s3)) ((g1.same s2).same s3) q⟩⟩)
/-! not in -/
theorem o_notInS : OpR X (compareOp .NotIn) (rP fun d e b => ∃ (z : Str) (zs : List Str), d = .str z ∧ e = .tuple (zs.map PyData.str) ∧ b = !decide (z ∈ zs)) := fun pins s σ H x y v u Q I rx ry ⟨S, d, e, b, g1, g2, ⟨z, zs, e1, e2, e3⟩, q⟩ => by
  subst e1 e2 e3
  cases g1
  obtain ⟨a, xs, rfl, ha, hs, sq⟩ := g2.seq (K := X.K)
  rw [strsE hs] at sq
  refine op_notIn_seq pins s σ H _ _ v u Q I rx ry ⟨a, _, rfl, .inr sq, rfl, flat_strs' _, ?_⟩
  show Q (.bl (!inV (.str z) (zs.map V.str))) H
  rw [inV_strs]
  exact q
theorem o_notInI : OpR X (compareOp .NotIn) (rP fun d e b => ∃ (i : Int) (is : List Int), d = .int i ∧ e = .tuple (is.map PyData.int) ∧ b = !decide (i ∈ is)) := fun pins s σ H x y v u Q I rx ry ⟨S, d, e, b, g1, g2, ⟨i, is, e1, e2, e3⟩, q⟩ => by
  subst e1 e2 e3
  cases g1
  obtain ⟨a, xs, rfl, ha, hs, sq⟩ := g2.seq (K := X.K)
  have ex : ∀ {xs : List V} {is : List Int}, DGs S H xs (is.map PyData.int) → xs = is.map V.int ∧ (xs.all flatV) = true ∧ inV (.int i) xs = decide (i ∈ is) := fun {xs is} h => by
    induction is generalizing xs with
    | nil => cases h; exact ⟨rfl, rfl, rfl⟩
    | cons j is ih =>
      cases h with
      | cons h hs =>
        cases h
        obtain ⟨e1, e2, e3⟩ := ih hs
        refine ⟨by rw [e1]; rfl, by rw [List.all_cons, e2]; rfl, ?_⟩
        show ((eqV (.int j) (.int i)) || inV (.int i) _) = _
        rw [e3]
        apply Bool.eq_iff_iff.mpr
        rw [Bool.or_eq_true, decide_eq_true_eq, decide_eq_true_eq, List.mem_cons]
        have : eqV (.int j) (.int i) = true ↔ i = j := by
          show ((j == i) = true) ↔ i = j
          rw [beq_iff_eq]
          exact eq_comm
        rw [this]
  obtain ⟨e1, e2, e3⟩ := ex hs
  refine op_notIn_seq pins s σ H _ _ v u Q I rx ry ⟨a, _, rfl, .inr sq, rfl, e2, ?_⟩
  show Q (.bl (!inV (.int i) xs)) H
  rw [e3]
  exact q
/-- 'a' <= x <= 'z', texts -/
theorem d_btwS {i j o : Str} (ha : ED X ρ a (.str i)) (hb : ED X ρ b (.str j)) (hc : ED X ρ c (.str o)) (hm : lastMarks [.LtE, .LtE] [b, c] = false := by with_unfolding_all rfl) : ED X ρ (.Compare a [.LtE, .LtE] [b, c] pos) (.bool (!decide (lt j i) && !decide (lt o j))) := fun S σ H Q sl q =>
  e_btwS (ha S σ H _ sl fun v H1 s1 g1 => hb S σ H1 _ (sl.same s1) fun u H2 s2 g2 => by
    cases g1; cases g2
    refine ⟨i, j, rfl, rfl, fun h => hc S σ H2 _ (sl.same (s1.trans s2)) fun w H3 s3 g3 => ?_, fun h => ?_⟩
    · cases g3
      have h' : ¬ lt j i := h
      rw [decide_eq_false h', Bool.not_false, Bool.true_and] at q
      exact ⟨o, rfl, q _ H3 (s1.trans (s2.trans s3)) (.bl _)⟩
    · have h' : lt j i := h
      rw [decide_eq_true h', Bool.not_true, Bool.false_and] at q
      exact q _ H2 (s1.trans s2) (.bl _)) hm

section
variable {elt iter : Expr} {scope : Scope}
theorem d_allS {z : Str} (j : Nat) (g : Nat → Bool) (hm : X.mg "all" = none) (hN : X.N.Nodup) (okb : BlkOk X.N X.env.scope scope [(x, j)]) (h : ED X ρ iter (.str z)) (l : z.length ≤ 1000) (hel : ∀ c ∈ z.cps.toList, BD X scope (ρ.set j (some (.str ⟨#[c]⟩))) elt (.bool (g c)))
    (hg : ∀ (s : Shared) (H : Hp) (C : Addr) (cl : List (Str × Addr)) (fp : List Addr), PG (X.blk s H scope (compEnvC scope cl C X.env) fp) (.Name x pt) (gName j))
    (hgl : Gl X "all" := by rfl) (hc : X.calm = true := by rfl) (hs : ∀ z, foldedSetIterable iter X.env z = pure z := by intro _; rfl)
    (he : starEach [.ListComp elt [⟨.Name x pt, iter, [], 0⟩] scope pc] X.env = (false, eval (.ListComp elt [⟨.Name x pt, iter, [], 0⟩] scope pc) X.env) :: starEach [] X.env := by rfl) :
    ED X ρ (.Call (.Name "all" p) [.ListComp elt [⟨.Name x pt, iter, [], 0⟩] scope pc] [] pos) (.bool (z.cps.toList.all g)) := by
  have h1 := d_all hm ((d_lcS (pos := pc) j (fun c => .bool (g c)) hN okb h l hel hg hc hs).cast (by rw [show (fun c => PyData.bool (g c)) = PyData.bool ∘ g from rfl, ← List.map_map])) hgl hc he (p := p) (pos := pos)
  exact h1.cast (by rw [List.all_map]; rfl)
end
/-! defs that may ask a repr -/
theorem d_fnG {kk j : Nat} {f : PyData → Bool} (cF : CalG X.prog X.w X.K X.mg X.base kk x (spB f)) (hr : Room j X.A) (hG : X.A.guards = some []) (hk : kk ≤ j) (h : ED X ρ e d) (ok : okS d = true) (hg : Gl X x := by rfl)
    (hdb : (x == ("__debug__" : Str)) = false := by decide) (he : starEach [e] X.env = (false, eval e X.env) :: starEach [] X.env := by rfl) : ED X ρ (.Call (.Name x p) [e] [] pos) (.bool (f d)) := fun S σ H Q sl q =>
  e_cG cF hr hG hk (a_cons (h S σ H _ sl fun v H1 s1 g1 => a_nil ⟨S, v, d, rfl, g1, ok, fun H2 s2 => q _ H2 (s1.trans s2) (.bl _)⟩) he) hg hdb he rfl
theorem FnG.to {P : Program} {w : World} {K : PySem.W.Frag} {mg : Str → Option Value} {base : Heap} {k : Nat} {f : Addr} {fd : FuncData} {ps : List Str} {sp sp' : Sp} (h : FnG P w K mg base k f fd ps sp) (i : ∀ vs H Q E, sp' vs H Q E → sp vs H Q E) : FnG P w K mg base k f fd ps sp' :=
  ⟨fun vs H Q E q => h.len vs H Q E (i vs H Q E q), fun B out s H ar us vs Q E r g e b v q => h.go B out s H ar us vs Q E r g e b v (i vs H Q E q)⟩
theorem Fun.ok1G {P : Program} {w : World} {K : PySem.W.Frag} {mg : Str → Option Value} {base : Heap} {x qual : Str} {st : Stmt} {f : Addr} {fd : FuncData} {N : List Str} {y : Str} {k : Nat} {φ : PyData → Bool} (F : Fun K x qual st f fd) (S : FnScope N [y] (defScope st))
    (body : ∀ (cdv : Value) (B : Around) (out : List Env) (s : Shared) (H : Hp) (E : XK) (d : PyData), Room k (B.deeper (envOfC qual (defScope st) s.heap.objs.size f cdv)) → (B.deeper (envOfC qual (defScope st) s.heap.objs.size f cdv)).guards = some [] → okS d = true →
      LD (cxOf CX0 P w K mg base N qual (defScope st) f cdv B out s H E).nox (startD N [d]) (defBody st) (.ret (.bool (φ d)))) : FnG P w K mg base (k + 1) f fd [y] (spB φ) :=
  FnG.to (Fun.okDG (Fn := F1 φ) F S F1_len fun cdv B out s H E ds r hr hG h => by
    obtain ⟨d, rfl, hk, rfl⟩ := F1_inv h
    exact body cdv B out s H E d hr hG hk) fun vs H Q E h => spB_D' h
end


theorem shaped_listS {zs : List Str} (h : zs.all valS = true) : SeqAt.shaped (.list (zs.map PyData.str)) = true := by
  show (PyData.canLayAll0 (zs.map PyData.str) && decide (PyData.depthAll (zs.map PyData.str) + 1 ≤ 64)) = true
  rw [lay_strs h, depth_strs]
  rfl
theorem eqvL_strs (zs ys : List Str) : PyData.eqv (.list (zs.map PyData.str)) (.list (ys.map PyData.str)) = decide (zs = ys) := eqv_strs zs ys
theorem eqvT_strs (zs ys : List Str) : PyData.eqv (.tuple (zs.map PyData.str)) (.tuple (ys.map PyData.str)) = decide (zs = ys) := eqv_strs zs ys
/-! ### which data have the text of a word -/
theorem rt_fold (q : Nat) : ∀ (l : List Nat) (acc : Array Nat), (l.foldl (fun out c => out ++ (Builtin.Str.reprChar q c).toArray) acc).toList = acc.toList ++ l.flatMap (Builtin.Str.reprChar q)
  | [], acc => by simp
  | c :: l, acc => by
    rw [List.foldl_cons, rt_fold q l, Array.toList_append, List.flatMap_cons, List.append_assoc]
theorem rt_codes (z : Str) : (reprText z).cps.toList = reprQuote z :: (z.cps.toList.flatMap (Builtin.Str.reprChar (reprQuote z)) ++ [reprQuote z]) := by
  unfold reprText
  show ((z.cps.foldl (fun out c => out ++ (Builtin.Str.reprChar (reprQuote z) c).toArray) #[reprQuote z]).push (reprQuote z)).toList = _
  rw [Array.toList_push, ← Array.foldl_toList, rt_fold]
  rfl
theorem rc_or (c : Nat) : Builtin.Str.reprChar 39 c = [c] ∨ 92 ∈ Builtin.Str.reprChar 39 c := by
  unfold Builtin.Str.reprChar
  dsimp only
  split
  · exact .inr (by simp)
  · split
    · exact .inr (by simp)
    · split
      · exact .inr (by simp)
      · split
        · exact .inr (by simp)
        · split
          · exact .inl rfl
          · split
            · exact .inr (by simp)
            · split
              · exact .inr (by simp)
              · exact .inr (by simp)
theorem rc_low : ∀ c, 97 ≤ c → c ≤ 122 → Builtin.Str.reprChar 39 c = [c] := by
  have h : ∀ k, k < 26 → Builtin.Str.reprChar 39 (97 + k) = [97 + k] := by decide +kernel
  intro c h1 h2
  have := h (c - 97) (by omega)
  rwa [show 97 + (c - 97) = c by omega] at this
theorem flat_id (f : Nat → List Nat) : ∀ l : List Nat, (∀ c ∈ l, f c = [c]) → l.flatMap f = l
  | [], _ => rfl
  | c :: l, h => by
    rw [List.flatMap_cons, h c List.mem_cons_self, flat_id f l fun x hx => h x (List.mem_cons_of_mem _ hx)]
    rfl
def lowB (w : Str) : Bool := w.cps.toList.all fun c => decide (97 ≤ c) && decide (c ≤ 122)
theorem rt_low {w : Str} (h : lowB w = true) : (reprText w).cps.toList = 39 :: (w.cps.toList ++ [39]) := by
  have hw : ∀ c ∈ w.cps.toList, 97 ≤ c ∧ c ≤ 122 := fun c hc => by
    have := List.all_eq_true.mp h c hc
    rwa [Bool.and_eq_true, decide_eq_true_eq, decide_eq_true_eq] at this
  have q : reprQuote w = 39 := by
    unfold reprQuote
    have : w.cps.contains 39 = false := by
      cases e : w.cps.contains 39 with
      | false => rfl
      | true =>
        have m := Array.contains_iff.mp e
        have := hw 39 (Array.mem_toList_iff.mpr m)
        omega
    rw [this]; rfl
  rw [rt_codes, q, flat_id _ _ fun c hc => rc_low c (hw c hc).1 (hw c hc).2]
theorem head_cat (a : Nat) (x y : Str) (h : x.cps.toList.head? = some a) : (x ++ y).cps.toList.head? = some a := by
  rw [str_cat]
  cases e : x.cps.toList with
  | nil => rw [e] at h; cases h
  | cons b l => rw [e] at h; exact h
theorem shown_head {d : PyData} (hd : okE d = true) (h : isStr d = false) : d.shown.cps.toList.head? ≠ some 39 := by
  match d, hd, h with
  | .none, _, _ => decide +kernel
  | .bool true, _, _ => decide +kernel
  | .bool false, _, _ => decide +kernel
  | .int i, hd, _ =>
    have h' : ((PyData.int i).showable && decide ((PyData.int i).shown.length ≤ 60) && decide ((PyData.int i).shown.cps.toList.head? ≠ some 39)) = true := hd
    rw [Bool.and_eq_true] at h'
    exact of_decide_eq_true h'.2
  | .list ds, _, _ =>
    intro e
    have e2 : (PyData.list ds).shown = listText (PyData.shownAll ds) := by simp only [PyData.shown]
    rw [e2, listText_eq_join, head_cat 91 _ _ (head_cat 91 _ _ (by decide +kernel))] at e
    cases e
  | .tuple ds, _, _ =>
    intro e
    have e2 : (PyData.tuple ds).shown = tupleText (PyData.shownAll ds) := by simp only [PyData.shown]
    rw [e2] at e
    unfold tupleText at e
    rw [head_cat 40 _ _ (head_cat 40 _ _ (by decide +kernel))] at e
    cases e
  | .dict kvs, _, _ =>
    intro e
    have e2 : (PyData.dict kvs).shown = dictText (PyData.shownKv kvs) := by simp only [PyData.shown]
    rw [e2] at e
    unfold dictText at e
    rw [head_cat 123 _ _ (head_cat 123 _ _ (by decide +kernel))] at e
    cases e
  | .str _, _, h => cases h
theorem shown_is {d : PyData} {w t : Str} (hd : okE d = true) (hw : lowB w = true) (ht : t = reprText w) : decide (d.shown = t) = eqS d w := by
  subst ht
  apply Bool.eq_iff_iff.mpr
  rw [decide_eq_true_eq]
  cases hs : isStr d with
  | false =>
    have e : eqS d w = false := by cases d <;> first | rfl | cases hs
    rw [e]
    refine ⟨fun h => ?_, fun h => by cases h⟩
    have := shown_head hd hs
    rw [h, rt_low hw] at this
    exact absurd rfl this
  | true =>
    cases d with
    | str z =>
      show reprText z = reprText w ↔ decide (z = w) = true
      rw [decide_eq_true_eq]
      refine ⟨fun h => ?_, fun h => by rw [h]⟩
      have h2 : (reprText z).cps.toList = (reprText w).cps.toList := by rw [h]
      rw [rt_low hw, rt_codes] at h2
      injection h2 with q h3
      rw [q] at h3
      have h4 := List.append_cancel_right h3
      have hall : ∀ c ∈ z.cps.toList, Builtin.Str.reprChar 39 c = [c] := fun c hc => by
        rcases rc_or c with e | e
        · exact e
        · exfalso
          have m : 92 ∈ w.cps.toList := by rw [← h4]; exact List.mem_flatMap.mpr ⟨c, hc, e⟩
          have := List.all_eq_true.mp hw 92 m
          simp at this
      rw [flat_id _ _ hall] at h4
      exact str_ext h4
    | _ => cases hs
end My

namespace My
open PySem PySem.Spec PyProof.Rows L2
def lenB (d : PyData) : Bool := isStr d && (decide (1 ≤ (My.strOf d).length) && decide ((My.strOf d).length ≤ 8))
theorem isStr_eq {d : PyData} (h : isStr d = true) : d = .str (My.strOf d) := by cases d <;> first | rfl | cases h
theorem dec_le (a b : Nat) : decide ((a : Int) ≤ (b : Int)) = decide (a ≤ b) := by
  apply Bool.eq_iff_iff.mpr
  rw [decide_eq_true_eq, decide_eq_true_eq]
  exact Int.ofNat_le
theorem valD_len (d : PyData) : valD d = (lenB d && (My.strOf d).cps.toList.all letB) := by
  cases d with
  | str z =>
    show (decide (1 ≤ z.length) && decide (z.length ≤ 8) && z.cps.toList.all letB) = ((true && (decide (1 ≤ z.length) && decide (z.length ≤ 8))) && z.cps.toList.all letB)
    rw [Bool.true_and]
  | _ => rfl
section
variable {X : Cx} {ρ : Rho} {a a2 b c e : Expr} {es rest : List Expr} {d d1 d2 : PyData} {ds ds2 : List PyData} {pos p p2 p3 pc pt : Pos} {x y : Str} {k m : Bool}
/-- not isinstance(x, str) or not 1 <= len(x) <= 8 -/
theorem wd_strB1 {j1 j2 q10 q11} (G : X.mg "isinstance" = none ∧ X.mg "str" = none ∧ X.mg "len" = none) (h : ED X ρ a d) (hB : ED X ρ a2 d) (ok : okS d = true) (hg : Gl X "isinstance" := by rfl) (hgT : Gl X "str" := by rfl) (hgl : Gl X "len" := by rfl) {q1 q2 q3 q4 q5 q6 q7 q8 : Pos}
    (he : starEach [a, .Name "str" q2] X.env = (false, eval a X.env) :: starEach [.Name "str" q2] X.env := by rfl) (he2 : starEach [a2] X.env = (false, eval a2 X.env) :: starEach [] X.env := by rfl)
    (hi1 : ∀ whole, isTrue (.Call (.Name "isinstance" q1) [a, .Name "str" q2] [] q3) X.env whole = (do let v ← whole; standAt q3; holding [v] (truthy v)) := by intro _; rfl)
    (hm : lastMarks [.LtE, .LtE] [.Call (.Name "len" q5) [a2] [] q6, .Constant (.int 8) j2 q11] = false := by with_unfolding_all rfl) :
    WD X ρ (.BoolOp .Or [.UnaryOp .Not (.Call (.Name "isinstance" q1) [a, .Name "str" q2] [] q3) q4, .UnaryOp .Not (.Compare (.Constant (.int 1) j1 q10) [.LtE, .LtE] [.Call (.Name "len" q5) [a2] [] q6, .Constant (.int 8) j2 q11] q7) q8] pos) (!lenB d) := by
  have e : (!lenB d) = (!isStr d || !(decide ((1 : Int) ≤ ((My.strOf d).length : Int)) && decide (((My.strOf d).length : Int) ≤ (8 : Int)))) := by
    unfold lenB
    rw [show decide ((1 : Int) ≤ ((My.strOf d).length : Int)) = decide (1 ≤ (My.strOf d).length) from dec_le 1 _, show decide (((My.strOf d).length : Int) ≤ (8 : Int)) = decide ((My.strOf d).length ≤ 8) from dec_le _ 8]
    cases isStr d <;> rfl
  rw [e]
  refine wd_or (td_not (td_val (d_isStr G.1 G.2.1 h hg hgT he) hi1)) fun ht => wd_or1 (td_not ?_)
  have hs := nb' ht
  have hz : (My.strOf d).length ≤ sizeLine := str_line (by rw [← isStr_eq hs]; exact ok)
  exact td_btw (d_int 1) (d_lenS G.2.2 hz (hB.cast (isStr_eq hs)) hgl he2) (fun _ => d_int 8) hm
theorem wd_strB {j1 j2 q10 q11} (G : X.mg "isinstance" = none ∧ X.mg "str" = none ∧ X.mg "len" = none) (h : ED X ρ a d) (hB : ED X ρ a2 d) (ok : okS d = true) (hr : lenB d = true → WD X ρ (.BoolOp .Or (b :: rest) pos) m) (hg : Gl X "isinstance" := by rfl) (hgT : Gl X "str" := by rfl) (hgl : Gl X "len" := by rfl) {q1 q2 q3 q4 q5 q6 q7 q8 : Pos}
    (he : starEach [a, .Name "str" q2] X.env = (false, eval a X.env) :: starEach [.Name "str" q2] X.env := by rfl) (he2 : starEach [a2] X.env = (false, eval a2 X.env) :: starEach [] X.env := by rfl)
    (hi1 : ∀ whole, isTrue (.Call (.Name "isinstance" q1) [a, .Name "str" q2] [] q3) X.env whole = (do let v ← whole; standAt q3; holding [v] (truthy v)) := by intro _; rfl)
    (hm : lastMarks [.LtE, .LtE] [.Call (.Name "len" q5) [a2] [] q6, .Constant (.int 8) j2 q11] = false := by with_unfolding_all rfl) :
    WD X ρ (.BoolOp .Or (.UnaryOp .Not (.Call (.Name "isinstance" q1) [a, .Name "str" q2] [] q3) q4 :: .UnaryOp .Not (.Compare (.Constant (.int 1) j1 q10) [.LtE, .LtE] [.Call (.Name "len" q5) [a2] [] q6, .Constant (.int 8) j2 q11] q7) q8 :: b :: rest) pos) (!lenB d || m) := by
  have e0 : lenB d = (isStr d && (decide ((1 : Int) ≤ ((My.strOf d).length : Int)) && decide (((My.strOf d).length : Int) ≤ (8 : Int)))) := by
    unfold lenB
    rw [show decide ((1 : Int) ≤ ((My.strOf d).length : Int)) = decide (1 ≤ (My.strOf d).length) from dec_le 1 _, show decide (((My.strOf d).length : Int) ≤ (8 : Int)) = decide ((My.strOf d).length ≤ 8) from dec_le _ 8]
  have e : (!lenB d || m) = (!isStr d || (!(decide ((1 : Int) ≤ ((My.strOf d).length : Int)) && decide (((My.strOf d).length : Int) ≤ (8 : Int))) || m)) := by
    rw [e0]
    cases isStr d <;> cases (decide ((1 : Int) ≤ ((My.strOf d).length : Int)) && decide (((My.strOf d).length : Int) ≤ (8 : Int))) <;> rfl
  rw [e]
  refine wd_or (td_not (td_val (d_isStr G.1 G.2.1 h hg hgT he) hi1)) fun ht => ?_
  have hs := nb' ht
  have hz : (My.strOf d).length ≤ sizeLine := str_line (by rw [← isStr_eq hs]; exact ok)
  exact wd_or (td_not (td_btw (d_int 1) (d_lenS G.2.2 hz (hB.cast (isStr_eq hs)) hgl he2) (fun _ => d_int 8) hm)) fun h2 => hr (by rw [e0, hs, nb' h2]; rfl)

section
variable {scope : Scope} {iter : Expr} {ja jz : _} {qa qb qc qd : Pos}
theorem d_letters (j : Nat) (hm : X.mg "all" = none) (hN : X.N.Nodup) (okb : BlkOk X.N X.env.scope scope [(x, j)]) (h : ED X ρ iter d) (hd : lenB d = true)
    (hel : ∀ c : Nat, BD X scope (ρ.set j (some (.str ⟨#[c]⟩))) (.Name x qb) (.str ⟨#[c]⟩))
    (hg : ∀ (s : Shared) (H : Hp) (C : Addr) (cl : List (Str × Addr)) (fp : List Addr), PG (X.blk s H scope (compEnvC scope cl C X.env) fp) (.Name x pt) (gName j))
    (hgl : Gl X "all" := by rfl) (hc : X.calm = true := by rfl) (hs : ∀ z, foldedSetIterable iter X.env z = pure z := by intro _; rfl)
    (he : starEach [.ListComp (.Compare (.Constant (.str "a") ja qa) [.LtE, .LtE] [.Name x qb, .Constant (.str "z") jz qc] qd) [⟨.Name x pt, iter, [], 0⟩] scope pc] X.env = (false, eval (.ListComp (.Compare (.Constant (.str "a") ja qa) [.LtE, .LtE] [.Name x qb, .Constant (.str "z") jz qc] qd) [⟨.Name x pt, iter, [], 0⟩] scope pc) X.env) :: starEach [] X.env := by rfl) :
    ED X ρ (.Call (.Name "all" p) [.ListComp (.Compare (.Constant (.str "a") ja qa) [.LtE, .LtE] [.Name x qb, .Constant (.str "z") jz qc] qd) [⟨.Name x pt, iter, [], 0⟩] scope pc] [] pos) (.bool ((My.strOf d).cps.toList.all letB)) := by
  have hs1 : isStr d = true := by unfold lenB at hd; rw [Bool.and_eq_true] at hd; exact hd.1
  have hl : (My.strOf d).length ≤ 8 := by unfold lenB at hd; rw [Bool.and_eq_true, Bool.and_eq_true] at hd; exact of_decide_eq_true hd.2.2
  refine d_allS j letB hm hN okb (h.cast (isStr_eq hs1)) (by omega) (fun c hc => ?_) hg hgl hc hs he
  intro s0 H00 C cl fp
  have e : letB c = (!decide (lt (⟨#[c]⟩ : Str) (Str.ofString "a")) && !decide (lt (Str.ofString "z") (⟨#[c]⟩ : Str))) := let_btw c
  rw [e]
  exact d_btwS (d_str _) (hel c s0 H00 C cl fp) (d_str _) (by with_unfolding_all rfl)
end
end
theorem SD.cast {X : Cx} {ρ : Rho} {st : Stmt} {o o' : Out} (h : SD X ρ st o) (e : o = o') : SD X ρ st o' := e ▸ h
section
variable {X : Cx} {ρ : Rho} {iter elt : Expr} {ds : List PyData} {pos spos py pt : Pos} {x y : Str} {scope : Scope}
theorem lcT_core (j : Nat) (f : PyData → PyData) {S : Addr → Prop} {σ : L2.St} {H : Hp} {Kq : Addr → Hp → Prop} (h : ED X ρ iter (.tuple ds)) (l : ds.length ≤ 1000) (hel : ∀ d ∈ ds, BD X scope (ρ.set j (some d)) elt (f d)) (sl : SL S H σ ρ) (q : ∀ Dn H', Same H H' → DG S H' (.ref Dn) (.list (ds.map f)) → Kq Dn H') :
    WE X iter σ H fun v H1 => ∃ a xs, v = .ref a ∧ SqT X.K H1 a xs ∧ ∀ D, H1 D = none → ∃ Pv : Nat → Hp → Prop, Pv 0 (L2.upd H1 D (.lst [])) ∧ (∀ i H, i ≤ xs.length → Pv i H → SqT X.K H a xs) ∧
      (∀ i y H, xs[i]? = some y → Pv i H → WB X scope elt ((L2.wipe σ [j]).set j (some y)) H fun z H4 => ∃ acc, H4 D = some (.lst acc) ∧ acc.length < sizeLine ∧ Pv (i + 1) (L2.upd H4 D (.lst (acc ++ [z])))) ∧ ∀ H, Pv xs.length H → Kq D H := by
  refine h S σ H _ sl fun v H1 s1 g1 => ?_
  obtain ⟨a, xs, rfl, ha, hds, sq⟩ := g1.seq (K := X.K)
  refine ⟨a, xs, rfl, sq, fun D nD => ?_⟩
  have sl1 := sl.same s1
  have slD := sl1.and1 (o := .lst []) nD
  have hdsD := hds.mono (T := And1 S D) (My.Same.tups (same_new (o := .lst []) nD)) fun a u n e => ⟨fun z => z.elim n fun z => (by rw [z, nD] at e; cases e), by rw [upd_ne (ne_of_none e nD)]; exact e⟩
  have lx := hds.length
  refine ⟨fun i H' => ∃ ys, (∀ b o, b ≠ D → (L2.upd H1 D (.lst [])) b = some o → H' b = some o) ∧ H' D = some (.lst ys) ∧ ys.length = i ∧ DGs (And1 S D) H' ys ((ds.take i).map f), ?_, ?_, ?_, ?_⟩
  · exact ⟨[], fun b o _ e => e, upd_same, rfl, .nil⟩
  · rintro i H' _ ⟨ys, k1, _⟩
    exact .inl (.inl (k1 a _ (ne_of_none ha nD) (same_new nD _ _ ha)))
  · rintro i y H' hi ⟨ys, k1, k2, k3, k4⟩ s0 H00 C cl fp
    obtain ⟨d, hd, hy⟩ := hdsD.get hi
    have keep : ∀ {v : V} {d : PyData}, DG (And1 S D) (L2.upd H1 D (.lst [])) v d → DG (And1 S D) H' v d := fun g => g.mono (fun b xs e => k1 b _ (ne_of e upd_same (fun z => by cases z)) e) fun a o n e => ⟨n, k1 a o (fun z => n (.inr z)) e⟩
    have slp : SL (And1 S D) H' σ ρ := ⟨fun b z w => by
      cases e : (L2.upd H1 D (.lst [])) b with
      | none => exact slD.dom b z e
      | some o =>
        by_cases bD : b = D
        · rw [bD, k2] at w; cases w
        · (rw [k1 b o bD e] at w; cases w), fun i d q => let ⟨v, a, b⟩ := slD.look i d q; ⟨v, a, keep b⟩, slD.len⟩
    have sl2 := SL.set (i := j) slp (keep hy)
    have ew : (L2.wipe σ [j]).set j (some y) = σ.set j (some y) := by show (σ.set j none).set j (some y) = _; rw [List.set_set]
    rw [ew]
    refine hel d (List.mem_of_getElem? hd) s0 H00 C cl fp (And1 S D) _ H' _ sl2 fun z H4 s4 g4 => ?_
    have h4 := s4 _ _ k2
    refine ⟨ys, h4, by rw [k3]; exact Nat.lt_of_lt_of_le (show i < 1001 by have := (List.getElem?_eq_some_iff.mp hd).1; omega) (by decide), ys ++ [z], fun b o n e => ?_, upd_same, by rw [List.length_append, k3]; rfl, ?_⟩
    · rw [upd_ne n]; exact s4 _ _ (k1 b o n e)
    · have lt : i < ds.length := (List.getElem?_eq_some_iff.mp hd).1
      have e : ds[i] = d := by rw [List.getElem?_eq_getElem lt] at hd; exact Option.some.inj hd
      rw [List.take_succ_eq_append_getElem lt, List.map_append, e]
      exact ((k4.same s4).append (.cons g4 .nil)).put h4
  · rintro H' ⟨ys, k1, k2, k3, k4⟩
    rw [lx, List.take_length] at k4
    refine q D H' (s1.trans fun b o e => k1 b o (ne_of_none e nD) (same_new nD b o e)) (.lst k2 (fun z => sl1.dom D z nD) k4.un1)
/-- y = [elt for x in iter] as a statement -/
theorem sd_lcT (i j : Nat) (f : PyData → PyData) (hN : X.N.Nodup) (okb : BlkOk X.N X.env.scope scope [(x, j)]) (h : ED X ρ iter (.tuple ds)) (l : ds.length ≤ 1000) (hel : ∀ d ∈ ds, BD X scope (ρ.set j (some d)) elt (f d))
    (hg : ∀ (s : Shared) (H : Hp) (C : Addr) (cl : List (Str × Addr)) (fp : List Addr), PG (X.blk s H scope (compEnvC scope cl C X.env) fp) (.Name x pt) (gName j))
    (hsw : swapsWith (.ListComp elt [⟨.Name x pt, iter, [], 0⟩] scope pos) (some (.Name y py)) spos.line X.env = pure true) (hy : X.N[i]? = some y := by rfl) (hyl : X.env.scope.names.lookup y = some .local := by rfl)
    (hc : X.calm = true := by rfl) (hs : ∀ z, foldedSetIterable iter X.env z = pure z := by intro _; rfl) : SD X ρ (.Assign [.Name y py] (.ListComp elt [⟨.Name x pt, iter, [], 0⟩] scope pos) spos) (.nx (ρ.set i (some (.list (ds.map f))))) := fun S σ H D sl q =>
  toS (ps_setLc (own := [(x, j)]) (te := WB X scope elt) hc hN hy hyl hsw (pi_tup pE) okb hg (fun _ _ _ _ _ => pts_nil) (fun s H0 C cl fp => ⟨fun pins s' σ' H' Q' I q => (q s H0 C cl fp).go pins s' I⟩) hs)
    (WE.mono (lcT_core j f h l hel sl (Kq := fun Dn H' => D.nx (σ.set i (some (.ref Dn))) H') fun Dn H' s g => q _ H' s ((sl.same s).set g)) fun v H1 ⟨a, xs, e, hS, k⟩ => ⟨a, e, ⟨xs, hS⟩, fun Dn nD => by
      obtain ⟨Pv, p0, pl, ps, pd⟩ := k Dn nD
      exact lc_tup (g := gName j) (tt := tYes) (te := WB X scope elt) (vs := [j]) (σ := σ) Pv p0 pl (fun i y H hi p => ⟨set_wipe σ j y, ps i y H hi p⟩) pd⟩)
end
end My

namespace K04
open PySem PySem.Spec PyProof.Rows L2 My
def nm (z : Str) : Prop := z.length ≤ 9 ∧ (z.cps.toList.all fun c => decide (c < 128)) = true
def okN (d : PyData) : Prop := ∃ z, d = .str z ∧ nm z
def okO (d : PyData) : Prop := d = .none ∨ okN d
def okC (d : PyData) : Prop := ∃ a b, d = .tuple [a, b] ∧ okO a ∧ okN b
def okK (F : PyData → Prop) (d : PyData) : Prop := ∃ s n ts, d = .tuple [.str "call", s, n, .tuple ts] ∧ okO s ∧ okN n ∧ 1 ≤ ts.length ∧ ts.length ≤ 2 ∧ ∀ t ∈ ts, F t
def okTm : Nat → PyData → Prop
  | 0, d => okN d ∨ okC d
  | k + 1, d => okN d ∨ okC d ∨ okK (okTm k) d
theorem okTm.cases {k : Nat} {d : PyData} (h : okTm k d) : okN d ∨ okC d ∨ ∃ j, k = j + 1 ∧ okK (okTm j) d := by
  cases k with
  | zero => rcases h with h | h; exact .inl h; exact .inr (.inl h)
  | succ j => rcases h with h | h | h; exact .inl h; exact .inr (.inl h); exact .inr (.inr ⟨j, rfl, h⟩)
def okTold (d : PyData) : Prop := (∃ n, d = .tuple [.str "star", n] ∧ okN n) ∨ (∃ a b n, d = .tuple [.str "column", .tuple [a, b], n] ∧ okO a ∧ okN b ∧ okN n) ∨
  ∃ t n, d = .tuple [.str "term", t, n] ∧ (okN t ∨ okK (okTm 2) t) ∧ okN n
def okSrc (d : PyData) : Prop := ∃ s n l, d = .tuple [s, n, l] ∧ okO s ∧ okN n ∧ okN l
def okCond (d : PyData) : Prop := (∃ a b, d = .tuple [.str "equal", a, b] ∧ okC a ∧ okC b) ∨ ∃ a ds, d = .tuple [.str "in", a, .tuple ds] ∧ okC a ∧ ds.length ≤ 8 ∧ ∀ x ∈ ds, okN x
theorem okTm_of {t : PyData} (h : okN t ∨ okK (okTm 2) t) : okTm 3 t := by
  rcases h with h | h
  · exact .inl h
  · exact .inr (.inr h)
def okL (ok : PyData → Prop) (ds : List PyData) : Prop := ds.length ≤ 8 ∧ ∀ d ∈ ds, ok d
def okSt (d : PyData) : Prop := ∃ b ts ss cs, d = .tuple [.bool b, .tuple ts, .tuple ss, .tuple cs] ∧ okL okTold ts ∧ okL okSrc ss ∧ okL okCond cs
structure Bm (mg : Str → Option Value) : Prop extends Bl mg where
  isi : mg "isinstance" = none
  str : mg "str" = none
theorem line_ge {n : Nat} (h : n ≤ 100000) : n ≤ sizeLine := Nat.le_trans h (by decide)
theorem ty_str {K : PySem.W.Frag} {H : Hp} {z : Str} : TyX K H (.str z) (.type "str") := .base (.str z)
theorem ty_tup {K : PySem.W.Frag} {H : Hp} {a : Addr} {xs : List V} (h : H a = some (.tup xs)) : TyX K H (.ref a) (.type "tuple") := .base (.tup h)
theorem ss : kitB "str" "str" = some true := by decide +kernel
theorem ts : kitB "tuple" "str" = some false := by decide +kernel
theorem tt : kitB "tuple" "tuple" = some true := by decide +kernel
theorem st : kitB "str" "tuple" = some false := by decide +kernel
end K04

namespace K04
open PySem PySem.Spec PyProof.Rows L2 My
abbrev sSome : Stmt := top 32
abbrev sWorths : Stmt := top 33
abbrev sCell : Stmt := top 34
abbrev sLTerm : Stmt := top 35
abbrev sStatement : Stmt := top 36
structure Bn (mg : Str → Option Value) : Prop extends Bm mg where
  min : mg "min" = none
  range : mg "range" = none
  sorted : mg "sorted" = none
  tuple : mg "tuple" = none
  repr : mg "repr" = none
section
variable {X : Cx} {o e : Expr} {σ : L2.St} {H : Hp} {Q : VK} {D : Ends} {pos apos : Pos}
/-- o.pop(e), a list -/
theorem e_pop (h : WE X o σ H fun x H1 => (∃ l xs, x = .ref l ∧ SqL X.K H1 l xs) ∧ WE X e σ H1 fun y H2 => ∃ l xs i k z, x = .ref l ∧ y = .int i ∧ H2 l = some (.lst xs) ∧ -(2 ^ 63) ≤ i ∧ i < 2 ^ 63 ∧ seqIndex? i xs.length = some k ∧ xs[k]? = some z ∧ Q z (upd H2 l (.lst (xs.eraseIdx k))))
    (hbase : attributeBase o "pop" X.env (eval o X.env) = eval o X.env := by rfl)
    (hfew : ((backTo pos (starEach [e] X.env)).all (fun x => !x.1) && (backToKw pos (keywordEach [] X.env)).all (fun x => x.1.isSome) && decide ([e].length + ([] : List Keyword).length + (if ([] : List Keyword).isEmpty then 0 else 1) < 30)) = true := by rfl)
    (hline : (apos.endLine == pos.line) = true := by rfl) (hs : starEach [e] X.env = (false, eval e X.env) :: starEach [] X.env := by rfl) (hplain : (backTo pos (starEach [] X.env)).any (·.1) = false := by rfl) :
    WE X (.Call (.Attribute o "pop" apos) [e] [] pos) σ H Q :=
  toE (pe_bm PySem.F.plainAttrs_list PySem.F.slot_list_pop PySem.F.type_list_pop mt_popAt pE pA hbase hfew hline hs hplain) (WE.mono h fun x H1 ⟨⟨l, xs, e1, hS⟩, k⟩ => by
    subst e1
    exact ⟨.inl ⟨rfl, _, hS⟩, a_cons (WE.mono k fun y H2 ⟨l', xs', i, k', z, a1, a2, a3, a4, a5, a6, a7, q⟩ => a_nil ⟨l', xs', i, k', z, a1, by rw [a2], a3, a4, a5, a6, a7, q⟩) hs⟩)
/-- o.append(e) as a statement -/
theorem s_app (h : WE X o σ H fun x H1 => (∃ l xs, x = .ref l ∧ SqL X.K H1 l xs) ∧ WE X e σ H1 fun y H2 => ∃ l xs, x = .ref l ∧ H2 l = some (.lst xs) ∧ xs.length < sizeLine ∧ D.nx σ (upd H2 l (.lst (xs ++ [y])))) {pos' : Pos}
    (hbase : attributeBase o "append" X.env (eval o X.env) = eval o X.env := by rfl)
    (hfew : ((backTo pos (starEach [e] X.env)).all (fun x => !x.1) && (backToKw pos (keywordEach [] X.env)).all (fun x => x.1.isSome) && decide ([e].length + ([] : List Keyword).length + (if ([] : List Keyword).isEmpty then 0 else 1) < 30)) = true := by rfl)
    (hline : (apos.endLine == pos.line) = true := by rfl) (hs : starEach [e] X.env = (false, eval e X.env) :: starEach [] X.env := by rfl) (hplain : (backTo pos (starEach [] X.env)).any (·.1) = false := by rfl)
    (hsw : swapsWith (.Call (.Attribute o "append" apos) [e] [] pos) none pos'.line X.env = pure false := by rfl) :
    WS X (.Expr (.Call (.Attribute o "append" apos) [e] [] pos) pos') D σ H :=
  s_expr (toE (pe_bm PySem.F.plainAttrs_list PySem.F.slot_list_append PySem.F.type_list_append mt_append pE pA hbase hfew hline hs hplain) (WE.mono h fun x H1 ⟨⟨l, xs, e1, hS⟩, k⟩ => by
    subst e1
    exact ⟨.inl ⟨rfl, _, hS⟩, a_cons (WE.mono k fun y H2 ⟨l', xs', a1, a3, a4, q⟩ => a_nil ⟨l', xs', y, a1, rfl, a3, a4, q⟩) hs⟩)) hsw
/-- min(a, b) -/
theorem e_min {a b : Expr} {p : Pos} (hm : X.mg "min" = none) (k : WE X a σ H fun x H1 => WE X b σ H1 fun y H2 => ∃ i j, x = .int i ∧ y = .int j ∧ Q (.int (if j < i then j else i)) H2) (hc : X.calm = true := by rfl) (hg : Gl X "min" := by rfl)
    (he : starEach [a, b] X.env = (false, eval a X.env) :: starEach [b] X.env := by rfl) (he2 : starEach [b] X.env = (false, eval b X.env) :: starEach [] X.env := by rfl) (hpl : (backTo pos (starEach [b] X.env)).any (·.1) = false := by rfl) :
    WE X (.Call (.Name "min" p) [a, b] [] pos) σ H Q :=
  e_callB (call_min2 hc) hm PyProof.Rows.boot_min (a_cons (WE.mono k fun x H1 k1 => a_cons (WE.mono k1 fun y H2 ⟨i, j, e1, e2, q⟩ => a_nil ⟨i, j, by rw [e1, e2], q⟩) he2) he) hg (by decide) (by decide) he hpl
/-- sorted(e), a list of texts; tuple(e), a list -/
theorem e_sorted {p : Pos} (hm : X.mg "sorted" = none) (k : WE X e σ H fun x H1 => ∃ (a : Addr) (xs : List Str), x = V.ref a ∧ SqL X.K H1 a (xs.map V.str) ∧ xs.length < 64 ∧ ∀ (ys : List Str) (p : Addr), ys.Perm xs → sortedS ys = true → H1 p = none → Q (.ref p) (upd H1 p (.lst (ys.map V.str)))) (hg : Gl X "sorted" := by rfl)
    (he : starEach [e] X.env = (false, eval e X.env) :: starEach [] X.env := by rfl) (hpl : (backTo pos (starEach [] X.env)).any (·.1) = false := by rfl) : WE X (.Call (.Name "sorted" p) [e] [] pos) σ H Q :=
  e_callB cr_sortedS hm PyProof.Rows.boot_sorted (a_cons (WE.mono k fun x H1 ⟨a, xs, e1, r⟩ => a_nil ⟨a, xs, by rw [e1], r⟩) he) hg (by decide) (by decide) he hpl
theorem e_tupL {p : Pos} (hm : X.mg "tuple" = none) (k : WE X e σ H fun x H1 => ∃ a xs, x = .ref a ∧ SqL X.K H1 a xs ∧ ∀ q, H1 q = none → Q (.ref q) (upd H1 q (.tup xs))) (hg : Gl X "tuple" := by rfl)
    (he : starEach [e] X.env = (false, eval e X.env) :: starEach [] X.env := by rfl) (hpl : (backTo pos (starEach [] X.env)).any (·.1) = false := by rfl) : WE X (.Call (.Name "tuple" p) [e] [] pos) σ H Q :=
  e_callT call_tuple_of hm PyProof.Rows.boot_tuple (a_cons (WE.mono k fun x H1 ⟨a, xs, e1, hS, r⟩ => a_nil ⟨a, xs, by rw [e1], .inl ⟨hS, r⟩⟩) he) hg (by decide) (by decide) he hpl
theorem e_listL {p : Pos} (hm : X.mg "list" = none) (k : WE X e σ H fun x H1 => ∃ a xs, x = .ref a ∧ (SqL X.K H1 a xs ∨ SqT X.K H1 a xs) ∧ ∀ q, H1 q = none → Q (.ref q) (upd H1 q (.lst xs))) (hg : Gl X "list" := by rfl)
    (he : starEach [e] X.env = (false, eval e X.env) :: starEach [] X.env := by rfl) (hpl : (backTo pos (starEach [] X.env)).any (·.1) = false := by rfl) : WE X (.Call (.Name "list" p) [e] [] pos) σ H Q :=
  e_callT call_list_of hm PyProof.Rows.boot_list (a_cons (WE.mono k fun x H1 ⟨a, xs, e1, hS, r⟩ => a_nil ⟨a, xs, by rw [e1], hS, r⟩) he) hg (by decide) (by decide) he hpl
end
theorem erase_map : ∀ (ws : List Str) (k : Nat), (ws.map V.str).eraseIdx k = (ws.eraseIdx k).map V.str
  | [], _ => rfl
  | _ :: _, 0 => rfl
  | w :: ws, k + 1 => by show V.str w :: (ws.map V.str).eraseIdx k = V.str w :: (ws.eraseIdx k).map V.str; rw [erase_map ws k]
theorem But.lst {p l : Addr} {H H' : Hp} {xs : List V} (b : But p H H') (n : l ≠ p) (h : H l = some (.lst xs)) : H' l = some (.lst xs) := b l _ n h
theorem But.none {p a : Addr} {H H' : Hp} (b : But p H H') (n : a ≠ p) (h : H' a = none) : H a = none := b.free n h
theorem seq_nat {d n : Nat} (h : d < n) : seqIndex? (d : Int) n = some d := by
  rw [PySem.seqIndex_of (by omega) (by omega)]
  simp
def spSome (K : PySem.W.Frag) : Sp := fun vs H Q _ => ∃ (p L pool : Addr) (n most : Nat) (zs : List Str), vs = [.ref p, .ref pool, .int most] ∧ Pen H p L n ∧ n + 200 < 2 ^ 40 ∧ SqL K H pool (zs.map V.str) ∧ pool ≠ p ∧ zs.length ≤ 20 ∧ most ≤ 20 ∧
  ∀ (q : Addr) (ys : List Str) (H' : Hp), But p H H' → Pen H' p L (n + 100) → H q = none → H' q = some (.lst (ys.map V.str)) → ys.length ≤ most → (∀ y ∈ ys, y ∈ zs) → Q (.ref q) H'
theorem sqL_but {K : PySem.W.Frag} {p l : Addr} {H H' : Hp} {xs : List V} (b : But p H H') (n : l ≠ p) (h : SqL K H l xs) : SqL K H' l xs := by
  rcases h with (h | ⟨o, h⟩) | h
  · exact .inl (.inl (b _ _ n h))
  · exact .inl (.inr ⟨o, b _ _ n h⟩)
  · exact .inr h
section
variable {P : Program} {w : World} {K : PySem.W.Frag} {mg : Str → Option Value} {base : Heap}
theorem scSome : FnScope ["_law_pen_here", "_law_pool", "_law_most", "_law_rest", "_law_turn"] ["_law_pen_here", "_law_pool", "_law_most"] (defScope sSome) := ⟨rfl, rfl, rfl, by decide +kernel, rfl, by decide +kernel, by decide +kernel⟩
theorem ok_some {f : Addr} {fd : FuncData} (F : Fun K "_law_some" "_law_some" sSome f fd) (G : Bn mg) (cD : CalN P w K mg base 2 "_law_draw" spDraw) : FnOk P w K mg base CX0 3 f fd ["_law_pen_here", "_law_pool", "_law_most"] (spSome K) := by
  refine Fun.okW F scSome (fun vs H Q E h => by obtain ⟨a, b, c, d, e, g, rfl, _⟩ := h; rfl) (fun cdv B out s H vs Q E hr h => ?_)
  obtain ⟨p, L, pool, n, most, zs, rfl, Pn, hn, hS, npp, hz, hm, q⟩ := h
  refine l_cons (s_set 3 (e_listL G.list (e_var 1 rfl ⟨pool, _, rfl, .inl hS, fun r hr0 => ?_⟩)) scSome.nd)
  have nrp : r ≠ p := Pn.newP hr0
  have nrL : r ≠ L := Pn.newL hr0
  have s1 := same_new (o := .lst (zs.map V.str)) hr0
  have P1 := Pn.same s1
  have r1 : (upd H r (.lst (zs.map V.str))) r = some (.lst (zs.map V.str)) := upd_same
  generalize hH1 : upd H r (.lst (zs.map V.str)) = H1 at s1 P1 r1
  refine l_one (s_ret (e_lcR 4 G.range scSome.nd (blkOk_by (N := ["_law_pen_here", "_law_pool", "_law_most", "_law_rest", "_law_turn"]) (sc := defScope sSome) (by decide +kernel)) (e_c cD hr (by decide) (a_cons (e_var 0 rfl (a_cons (e_addI (e_min G.min (e_var 2 rfl (e_len G.len (e_var 3 rfl ⟨r, _, rfl, .inl (.inl (.inl r1)), most, _, rfl, rfl, ?_⟩)))))))) ) (fun _ _ _ _ _ => pg_name (i := 4) scSome.nd rfl (Or.inl rfl))))
  rw [List.length_map]
  generalize hk : (if (zs.length : Int) < (most : Int) then (zs.length : Int) else (most : Int)) = kk
  have k0 : 0 ≤ kk ∧ kk ≤ most ∧ kk ≤ zs.length := by rw [← hk]; split <;> omega
  refine e_int ⟨kk, 1, rfl, rfl, a_nil ⟨p, L, n, kk + 1, rfl, P1, by omega, by omega, by omega, fun d H2 b2 P2 hd => ⟨d, rfl, by omega, fun D nD => ?_⟩⟩⟩
  have r2 := b2 _ _ nrp r1
  have nDp : D ≠ p := P2.newP nD
  have nDL : D ≠ L := P2.newL nD
  have nDr : D ≠ r := (ne_of_none r2 nD).symm
  refine ⟨fun i H3 => ∃ ws ys : List Str, (∀ b o, b ≠ p → b ≠ r → H1 b = some o → H3 b = some o) ∧ Pen H3 p L (n + 1 + i) ∧ H3 r = some (.lst (ws.map V.str)) ∧ H3 D = some (.lst (ys.map V.str)) ∧ ws.length + i = zs.length ∧ ys.length = i ∧ (∀ y ∈ ws, y ∈ zs) ∧ ∀ y ∈ ys, y ∈ zs, ?_, ?_, ?_⟩
  · refine ⟨zs, [], fun b o nb _ h => same_mut (Same.refl H2) nD b o (b2 b o nb h), P2.same (same_new nD), by rw [upd_ne nDr.symm]; exact r2, upd_same, by omega, rfl, fun y h => h, fun y h => by cases h⟩
  · rintro i H3 hi ⟨ws, ys, k1, k2, k3, k4, k5, k6, k7, k8⟩ s0 H00 C cl fp
    have hw : 0 < ws.length := by omega
    refine e_pop (e_var 3 rfl ⟨⟨r, _, rfl, .inl (.inl k3)⟩, e_c cD hr (by decide) (a_cons (e_var 0 rfl (a_cons (e_len G.len (e_var 3 rfl ⟨r, _, rfl, .inl (.inl (.inl k3)), a_nil ⟨p, L, n + 1 + i, _, rfl, k2, by omega, ?_, ?_, fun d' H4 b4 P4 hd' => ?_⟩⟩)))))⟩)
    · rw [List.length_map]; omega
    · rw [List.length_map]; omega
    rw [List.length_map] at hd'
    have hd2 : d' < ws.length := by omega
    have r4 := b4 _ _ nrp k3
    have d4 := b4 _ _ nDp k4
    refine ⟨r, _, d', d', .str ws[d'], rfl, rfl, r4, by omega, by omega, seq_nat (by rw [List.length_map]; exact hd2), by rw [List.getElem?_map, List.getElem?_eq_getElem hd2]; rfl, ?_⟩
    have g4 : (upd H4 r (.lst ((ws.map V.str).eraseIdx d'))) D = some (.lst (ys.map V.str)) := by rw [upd_ne nDr]; exact d4
    refine ⟨_, g4, ?_, ws.eraseIdx d', ys ++ [ws[d']], fun b o nb nr h => ?_, ?_, ?_, ?_, ?_, ?_, ?_, ?_⟩
    · rw [List.length_map, k6]
      exact Nat.lt_of_lt_of_le (show i < 100 by omega) (by decide)
    · have nbD : b ≠ D := fun e => by
        subst e
        have := But.none b2 nDp nD
        rw [this] at h
        cases h
      rw [upd_ne nbD, upd_ne nr]
      exact b4 b o nb (k1 b o nb nr h)
    · exact (P4.upd nrp nrL).upd nDp nDL
    · rw [upd_ne nDr.symm, upd_same, erase_map]
    · rw [upd_same, List.map_append]
      rfl
    · rw [List.length_eraseIdx_of_lt hd2]; omega
    · rw [List.length_append, k6]; rfl
    · exact fun y h => k7 y (List.mem_of_mem_eraseIdx h)
    · intro y h
      rcases List.mem_append.mp h with h | h
      · exact k8 y h
      · have e : y = ws[d'] := by simpa using h
        rw [e]
        exact k7 _ (List.getElem_mem hd2)
  · rintro H3 ⟨ws, ys, k1, k2, k3, k4, k5, k6, k7, k8⟩
    refine q D ys H3 (fun b o nb h => k1 b o nb (ne_of_none h hr0) (s1 b o h)) (Pen.mono k2 (by omega)) ?_ k4 (by omega) k8
    exact s1.free (But.none b2 nDp nD)
end
end K04

namespace K04
open PySem PySem.Spec PyProof.Rows L2 My
section
variable {X : Cx} {σ : L2.St} {H : Hp} {D : Ends} {pos spos py : Pos} {elt tg iter : Expr} {scope : Scope} {x y : Str}
/-- y = [elt for x in range(a)] as a statement -/
theorem s_lcR {a : Expr} {p pc pt : Pos} (i j : Nat) (hm : X.mg "range" = none) (hN : X.N.Nodup) (ok : BlkOk X.N X.env.scope scope [(x, j)])
    (h : WE X a σ H fun v H1 => ∃ n : Nat, v = .int n ∧ n < 2 ^ 62 ∧ ∀ Dn, H1 Dn = none → ∃ Pv : Nat → Hp → Prop, Pv 0 (upd H1 Dn (.lst [])) ∧
      (∀ i H, i < n → Pv i H → WB X scope elt ((wipe σ [j]).set j (some (.int i))) H fun z H4 => ∃ acc, H4 Dn = some (.lst acc) ∧ acc.length < sizeLine ∧ Pv (i + 1) (upd H4 Dn (.lst (acc ++ [z])))) ∧
      ∀ H, Pv n H → D.nx (σ.set i (some (.ref Dn))) H)
    (hg : ∀ (s : Shared) (H : Hp) (C : Addr) (cl : List (Str × Addr)) (fp : List Addr), PG (X.blk s H scope (compEnvC scope cl C X.env) fp) (.Name x pt) (gName j))
    (hsw : swapsWith (.ListComp elt [⟨.Name x pt, .Call (.Name "range" p) [a] [] pc, [], 0⟩] scope pos) (some (.Name y py)) spos.line X.env = pure true)
    (hy : X.N[i]? = some y := by rfl) (hyl : X.env.scope.names.lookup y = some .local := by rfl)
    (hgl : Gl X "range" := by rfl) (hst : starEach [a] X.env = [(false, eval a X.env)] := by rfl)
    (hc : X.calm = true := by rfl) (hs : ∀ z, foldedSetIterable (.Call (.Name "range" p) [a] [] pc) X.env z = pure z := by intro _; rfl) :
    WS X (.Assign [.Name y py] (.ListComp elt [⟨.Name x pt, .Call (.Name "range" p) [a] [] pc, [], 0⟩] scope pos) spos) D σ H :=
  toS (ps_setLc (own := [(x, j)]) (te := WB X scope elt) hc hN hy hyl hsw (pi_range1 hgl hm (pA (es := [a])) hst) ok hg (fun _ _ _ _ _ => pts_nil) (fun s H0 C cl fp => ⟨fun pins s' σ' H' Q' I q => (q s H0 C cl fp).go pins s' I⟩) hs)
    (a_cons (WE.mono h fun v H1 ⟨n, e, hn, k⟩ => a_nil ⟨(n : Int), by rw [e], by omega, by omega, fun Dn nD => by
      obtain ⟨Pv, p0, ps, pd⟩ := k Dn nD
      have en : ((n : Int)).toNat = n := by omega
      rw [en]
      refine lc_range (g := gName j) (tt := tYes) (te := WB X scope elt) (vs := [j]) (σ := σ) Pv p0 (fun i H hi p => ⟨set_wipe σ j _, ?_⟩) pd
      have e0 : (0 : Int) + (i : Int) = (i : Int) := Int.zero_add _
      rw [e0]
      exact ps i H hi p⟩) (by rw [hst]; rfl))
end
def nmB (z : Str) : Bool := decide (z.length ≤ 9) && z.cps.toList.all fun c => decide (c < 128)
theorem nm_of {z : Str} (h : nmB z = true) : nm z := by
  unfold nmB at h
  simp only [Bool.and_eq_true, decide_eq_true_eq] at h
  exact h
theorem nms_of {zs : List Str} (h : zs.all nmB = true) : ∀ z ∈ zs, nm z := fun z hz => nm_of (List.all_eq_true.mp h z hz)
theorem at_map {zs : List Str} {d : Nat} (h : d < zs.length) : atI (zs.map V.str) (d : Int) = some (.str zs[d]) := atI_nat (by rw [List.getElem?_map, List.getElem?_eq_getElem h]; rfl)
def spWorths : Sp := fun vs H Q _ => ∃ (p L : Addr) (n : Nat), vs = [.ref p] ∧ Pen H p L n ∧ n + 300 < 2 ^ 40 ∧ ∀ (v : V) (ds : List PyData) (H' : Hp), But p H H' → Pen H' p L (n + 100) → DT H' v (.tuple ds) → ds.length ≤ 8 → (∀ d ∈ ds, okN d) → Q v H'
def spCell (K : PySem.W.Frag) : Sp := fun vs H Q _ => ∃ (p L lb : Addr) (n : Nat) (zs : List Str), vs = [.ref p, .ref lb] ∧ Pen H p L n ∧ n + 300 < 2 ^ 40 ∧ SqL K H lb (zs.map V.str) ∧ lb ≠ p ∧ 0 < zs.length ∧ zs.length ≤ 100 ∧ (∀ z ∈ zs, nm z) ∧
  ∀ (v : V) (d : PyData) (H' : Hp), But p H H' → Pen H' p L (n + 3) → DT H' v d → okC d → Q v H'
def penC : Nat → Nat
  | 0 => 4
  | k + 1 => 2 * penC k + 8
def spLTerm (K : PySem.W.Frag) (k : Nat) : Sp := fun vs H Q _ => ∃ (p L lb : Addr) (n : Nat) (zs : List Str) (b : Bool), vs = [.ref p, .ref lb, .int k, .bl b] ∧ Pen H p L n ∧ n + penC k + 400 < 2 ^ 40 ∧ SqL K H lb (zs.map V.str) ∧ lb ≠ p ∧ 0 < zs.length ∧ zs.length ≤ 100 ∧ (∀ z ∈ zs, nm z) ∧
  ∀ (v : V) (d : PyData) (H' : Hp), But p H H' → Pen H' p L (n + penC k) → DT H' v d → okTm k d → Q v H'
theorem perm_mem {ys xs : List Str} (h : ys.Perm xs) {y : Str} (k : y ∈ ys) : y ∈ xs := h.mem_iff.mp k
theorem dp_strs {K : PySem.W.Frag} {H : Hp} : ∀ zs : List Str, DpAll K H (zs.map V.str) (zs.map PyData.str)
  | [] => .nil
  | z :: zs => .cons (.str z) (dp_strs zs)
theorem shaped_strs {zs : List Str} (h : ∀ z ∈ zs, nm z) : SeqAt.shaped (.list (zs.map PyData.str)) = true := by
  have h1 : ∀ ms : List Str, (∀ z ∈ ms, nm z) → PyData.canLayAll0 (ms.map PyData.str) = true := fun ms => by
    induction ms with
    | nil => intro _; rfl
    | cons m ms ih =>
      intro k
      show ((m.cps.all (· < 0x110000)) && PyData.canLayAll0 (ms.map PyData.str)) = true
      rw [ih fun z hz => k z (List.mem_cons_of_mem _ hz), ← Array.all_toList]
      have q := (k m List.mem_cons_self).2
      rw [Bool.and_true, List.all_eq_true]
      exact fun c hc => decide_eq_true (by have := of_decide_eq_true (List.all_eq_true.mp q c hc); omega)
  have h2 : ∀ ms : List Str, PyData.depthAll (ms.map PyData.str) = 0 := fun ms => by
    induction ms with
    | nil => rfl
    | cons m ms ih => show max 0 (PyData.depthAll (ms.map PyData.str)) = 0; rw [ih]; rfl
  show (PyData.canLayAll0 (zs.map PyData.str) && decide (PyData.depthAll (zs.map PyData.str) + 1 ≤ 64)) = true
  rw [h1 zs h, h2]
  rfl
theorem str_eta : ([V.str "a", V.str "b", V.str "c", V.str "ulm"] : List V) = (["a", "b", "c", "ulm"] : List Str).map V.str := rfl
section
variable {P : Program} {w : World} {K : PySem.W.Frag} {mg : Str → Option Value} {base : Heap}
theorem scWorths : FnScope ["_law_pen_here", "_law_found"] ["_law_pen_here"] (defScope sWorths) := ⟨rfl, rfl, rfl, by decide +kernel, rfl, by decide +kernel, by decide +kernel⟩
theorem ok_worths {f : Addr} {fd : FuncData} (F : Fun K "_law_worths" "_law_worths" sWorths f fd) (G : Bn mg) (cS : CalN P w K mg base 3 "_law_some" (spSome K)) : FnOk P w K mg base CX0 4 f fd ["_law_pen_here"] spWorths := by
  refine Fun.okW F scWorths (fun vs H Q E h => by obtain ⟨a, b, c, rfl, _⟩ := h; rfl) (fun cdv B out s H vs Q E hr h => ?_)
  obtain ⟨p, L, n, rfl, Pn, hn, q⟩ := h
  refine l_cons (s_set 1 ?_ scWorths.nd)
  refine e_sorted G.sorted (e_c cS hr (by decide) (a_cons (e_var 0 rfl (a_cons (e_lst ?_)))))
  iterate 4 refine a_cons (e_str ?_)
  refine a_nil ⟨by show 4 ≤ sizeLine; decide, fun pl hpl => ?_⟩
  have npl : pl ≠ p := Pn.newP hpl
  refine a_cons (e_int (a_nil ⟨p, L, pl, n, 3, ["a", "b", "c", "ulm"], rfl, Pn.same (same_new hpl), by omega, .inl (.inl upd_same), npl, by decide, by decide, fun c ys H1 b1 P1 nc hc hl hy => ?_⟩))
  have hnm : ∀ y ∈ ys, nm y := fun y h => nms_of (zs := ["a", "b", "c", "ulm"]) (by decide +kernel) y (hy y h)
  refine ⟨c, ys, rfl, .inl (.inl hc), by omega, fun ws r hp _ nr => ?_⟩
  have b2 : But p H (upd H1 r (.lst (ws.map V.str))) := (But.of (same_new hpl)).trans (b1.trans (But.of (same_new nr)))
  have hw : ∀ y ∈ ws, nm y := fun y h => hnm y (perm_mem hp h)
  have lw : ws.length ≤ 3 := by rw [hp.length_eq]; exact hl
  have P2 : Pen (upd H1 r (.lst (ws.map V.str))) p L (n + 100) := P1.same (same_new nr)
  have r2 : (upd H1 r (.lst (ws.map V.str))) r = some (.lst (ws.map V.str)) := upd_same
  generalize upd H1 r (.lst (ws.map V.str)) = H2 at b2 P2 r2
  refine l_one (s_ret (e_if (t_neD hr.units (e_var 1 rfl (e_lst (a_nil ⟨Nat.zero_le _, fun e he => ?_⟩))))))
  have s3 := same_new (o := .lst []) he
  refine ⟨.list (ws.map PyData.str), .list [], .lst (.inl (.inl (s3 _ _ r2))) (dp_strs ws), .lst (.inl (.inl upd_same)) .nil, shaped_strs hw, rfl, fun _ => ?_, fun _ => ?_⟩
  · refine e_tupL G.tuple (e_var 1 rfl ⟨r, _, rfl, .inl (.inl (s3 _ _ r2)), fun t ht => ?_⟩)
    refine q _ (ws.map PyData.str) _ (b2.trans (But.of (s3.trans (same_new ht)))) (P2.same (s3.trans (same_new ht))) (.tup upd_same (DTs.strs ws)) (by rw [List.length_map]; omega) fun d hd => ?_
    obtain ⟨z, hz, rfl⟩ := List.mem_map.mp hd
    exact ⟨z, rfl, hw z hz⟩
  · refine e_tup (a_cons (e_str (a_nil ⟨by show 1 ≤ sizeLine; decide, fun t ht => ?_⟩)))
    refine q _ [.str "b"] _ (b2.trans (But.of (s3.trans (same_new ht)))) (P2.same (s3.trans (same_new ht))) (.tup upd_same (.cons (.str _) .nil)) (by decide) fun d hd => ?_
    have ed : d = .str "b" := by simpa using hd
    exact ⟨_, ed, nm_of (by decide +kernel)⟩
theorem scCell : FnScope ["_law_pen_here", "_law_labels", "_law_label"] ["_law_pen_here", "_law_labels"] (defScope sCell) := ⟨rfl, rfl, rfl, by decide +kernel, rfl, by decide +kernel, by decide +kernel⟩
theorem ok_cell {f : Addr} {fd : FuncData} (F : Fun K "_law_cell" "_law_cell" sCell f fd) (G : Bn mg) (cD : CalN P w K mg base 2 "_law_draw" spDraw) : FnOk P w K mg base CX0 3 f fd ["_law_pen_here", "_law_labels"] (spCell K) := by
  refine Fun.okW F scCell (fun vs H Q E h => by obtain ⟨a, b, c, d, e, rfl, _⟩ := h; rfl) (fun cdv B out s H vs Q E hr h => ?_)
  obtain ⟨p, L, lb, n, zs, rfl, Pn, hn, hS, nlb, hz0, hz, hnm, q⟩ := h
  refine l_cons (s_set 2 (e_ixL (e_var 1 rfl (e_c cD hr (by decide) (a_cons (e_var 0 rfl (a_cons (e_len G.len (e_var 1 rfl ⟨lb, _, rfl, .inl hS, a_nil ⟨p, L, n, _, rfl, Pn, by omega, by rw [List.length_map]; omega, by rw [List.length_map]; omega, fun d H1 b1 P1 hd => ?_⟩⟩)))))))) scCell.nd)
  rw [List.length_map] at hd
  have hd2 : d < zs.length := by omega
  refine ⟨lb, _, d, _, rfl, rfl, sqL_but b1 nlb hS, at_map hd2, ?_⟩
  have nz := hnm _ (List.getElem_mem hd2)
  generalize zs[d] = z at nz
  refine l_one (s_ret (e_tup (a_cons (e_if (t_eq ?_)))))
  refine e_c cD hr (by decide) (a_cons (e_var 0 rfl (a_cons (e_int (a_nil ⟨p, L, n + 1, 3, rfl, P1, by omega, by decide, by decide, fun d2 H2 b2 P2 _ => ?_⟩)))))
  refine e_int ⟨rfl, fun _ => e_non ?_, fun _ => e_var 2 rfl ?_⟩
  all_goals
    refine a_cons (e_ixL (e_lst ?_))
    iterate 5 refine a_cons (e_str ?_)
    refine a_nil ⟨by show 5 ≤ sizeLine; decide, fun l hl => ?_⟩
    have nl : l ≠ p := P2.newP hl
    refine e_c cD hr (by decide) (a_cons (e_var 0 rfl (a_cons (e_int (a_nil ⟨p, L, n + 2, 5, rfl, P2.same (same_new hl), by omega, by decide, by decide, fun d3 H3 b3 P3 hd3 => ?_⟩)))))
    have hd4 : d3 < (["id", "id", "dept", "name", "town"] : List Str).length := by show d3 < 5; omega
    refine ⟨l, (["id", "id", "dept", "name", "town"] : List Str).map V.str, d3, _, rfl, rfl, sqL_but b3 nl (.inl (.inl upd_same)), at_map hd4, ?_⟩
    have nx := nms_of (zs := ["id", "id", "dept", "name", "town"]) (by decide +kernel) _ (List.getElem_mem hd4)
    generalize (["id", "id", "dept", "name", "town"] : List Str)[d3] = zx at nx
    refine a_nil ⟨by show 2 ≤ sizeLine; decide, fun t ht => ?_⟩
  · exact q _ (.tuple [.none, .str zx]) _ (b1.trans (b2.trans ((But.of (same_new hl)).trans (b3.trans (But.of (same_new ht)))))) (P3.same (same_new ht)) (.tup upd_same (.cons .non (.cons (.str _) .nil))) ⟨_, _, rfl, .inl rfl, _, rfl, nx⟩
  · exact q _ (.tuple [.str z, .str zx]) _ (b1.trans (b2.trans ((But.of (same_new hl)).trans (b3.trans (But.of (same_new ht)))))) (P3.same (same_new ht)) (.tup upd_same (.cons (.str _) (.cons (.str _) .nil))) ⟨_, _, rfl, .inr ⟨_, rfl, nz⟩, _, rfl, nx⟩
end
end K04

namespace K04
open PySem PySem.Spec PyProof.Rows L2 My
theorem at_some {xs : List V} {d : Nat} (h : d < xs.length) : atI xs (d : Int) = some xs[d] := atI_nat (List.getElem?_eq_getElem h)
/-- an item of a list of data -/
theorem pick {H : Hp} {xs : List V} {ds : List PyData} {ok : PyData → Prop} {d : Nat} (h : DTs H xs ds) (hl : d < xs.length) (k : ∀ x ∈ ds, ok x) : ∃ e, DT H xs[d] e ∧ ok e := by
  obtain ⟨e, he, hd⟩ := h.get (List.getElem?_eq_getElem hl)
  exact ⟨e, hd, k e (List.mem_of_getElem? he)⟩
theorem okN_of {z : Str} (h : nmB z = true) : okN (.str z) := ⟨z, rfl, nm_of h⟩
theorem okTm_val (k : Nat) {d : PyData} (h : okN d) : okTm k d := by cases k; exact .inl h; exact .inl h
theorem okTm_cell (k : Nat) {d : PyData} (h : okC d) : okTm k d := by cases k; exact .inr h; exact .inr (.inl h)
theorem penC_ge (k : Nat) : 4 ≤ penC k := by cases k with | zero => exact Nat.le_refl _ | succ k => show 4 ≤ 2 * penC k + 8; omega
theorem penC_le : ∀ k, k ≤ 3 → penC k ≤ 100 := by decide
section
variable {P : Program} {w : World} {K : PySem.W.Frag} {mg : Str → Option Value} {base : Heap}
theorem scLTerm : FnScope ["_law_pen_here", "_law_labels", "_law_depth", "_law_is_inner_here", "_law_road", "_law_some_here", "_law_schema", "_law_k"] ["_law_pen_here", "_law_labels", "_law_depth", "_law_is_inner_here"] (defScope sLTerm) := ⟨rfl, rfl, rfl, by decide +kernel, rfl, by decide +kernel, by decide +kernel⟩
theorem ok_lterm {f : Addr} {fd : FuncData} (F : Fun K "_law_term" "_law_term" sLTerm f fd) (bd : Binds K fd ["_law_pen_here", "_law_labels", "_law_depth", "_law_is_inner_here"] []) (hm : mg "_law_term" = some (.ref f)) (G : Bn mg) (cD : CalN P w K mg base 2 "_law_draw" spDraw) (cC : CalN P w K mg base 3 "_law_cell" (spCell K)) :
    ∀ k, k ≤ 3 → FnOk P w K mg base CX0 (k + 4) f fd ["_law_pen_here", "_law_labels", "_law_depth", "_law_is_inner_here"] (spLTerm K k) := by
  intro k
  induction k with
  | zero =>
    intro _
    refine Fun.okW F scLTerm (fun vs H Q E h => by obtain ⟨a, b, c, d, e, g, rfl, _⟩ := h; rfl) (fun cdv B out s H vs Q E hr h => ?_)
    obtain ⟨p, L, lb, n, zs, b, rfl, Pn, hn, hS, nlb, hz0, hz, hnm, q⟩ := h
    refine l_cons (s_set 4 (e_c cD hr (by decide) (a_cons (e_var 0 rfl (a_cons (e_int (a_nil ⟨p, L, n, 6, rfl, Pn, by omega, by decide, by decide, fun d H1 b1 P1 hd => ?_⟩)))))) scLTerm.nd)
    refine l_cons (WS.cut (P := fun σ H2 => σ = [some (.ref p), some (.ref lb), some (.int (0 : Nat)), some (.bl b), some (.int d), none, none, none] ∧ H2 = H1) (s_if (t_w (w_and (t_eq (e_var 4 rfl (e_int ⟨rfl, fun _ => w_and1 (t_not (t_tru (e_var 3 rfl ⟨b, rfl, fun _ => ?_, fun _ => l_nil ⟨rfl, rfl⟩⟩))), fun _ => ⟨fun e => Bool.noConfusion e, fun _ => l_nil ⟨rfl, rfl⟩⟩⟩)))))) ?_)
    · refine l_one (s_ret (e_ixL (e_lst ?_)))
      iterate 3 refine a_cons (e_str ?_)
      refine a_nil ⟨by show 3 ≤ sizeLine; decide, fun l hl => ?_⟩
      refine e_c cD hr (by decide) (a_cons (e_var 0 rfl (a_cons (e_int (a_nil ⟨p, L, n + 1, 3, rfl, P1.same (same_new hl), by omega, by decide, by decide, fun d2 H2 b2 P2 hd2 => ?_⟩)))))
      have hd4 : d2 < (["a", "b", "ulm"] : List Str).length := by show d2 < 3; omega
      refine ⟨l, (["a", "b", "ulm"] : List Str).map V.str, d2, _, rfl, rfl, sqL_but b2 (P1.newP hl) (.inl (.inl upd_same)), at_map hd4, ?_⟩
      have nx := nms_of (zs := ["a", "b", "ulm"]) (by decide +kernel) _ (List.getElem_mem hd4)
      exact q _ (.str _) _ (b1.trans ((But.of (same_new hl)).trans b2)) (P2.mono (by have := penC_ge 0; omega)) (.str _) (.inl ⟨_, rfl, nx⟩)
    rintro σ H2 ⟨rfl, rfl⟩
    refine l_cons (WS.cut (P := fun σ H3 => σ = [some (.ref p), some (.ref lb), some (.int (0 : Nat)), some (.bl b), some (.int d), none, none, none] ∧ H3 = H2) (s_if (t_w (w_and (t_lt (e_var 4 rfl (e_int ⟨_, _, rfl, rfl, fun _ => w_and1 (t_gt (e_var 2 rfl (e_int ⟨_, _, rfl, rfl, fun e => absurd (of_decide_eq_true e) (by decide), fun _ => l_nil ⟨rfl, rfl⟩⟩))), fun _ => ⟨fun e => Bool.noConfusion e, fun _ => l_nil ⟨rfl, rfl⟩⟩⟩)))))) ?_)
    rintro σ H3 ⟨rfl, rfl⟩
    exact l_one (s_ret (e_c cC hr (by decide) (a_cons (e_var 0 rfl (a_cons (e_var 1 rfl (a_nil ⟨p, L, lb, n + 1, zs, rfl, P1, by omega, sqL_but b1 nlb hS, nlb, hz0, hz, hnm, fun v d H4 b4 P4 hv hd => q v d H4 (b1.trans b4) P4 hv (.inr hd)⟩)))))))
  | succ k ih =>
    intro hk
    have pk := penC_le k (by omega)
    have ge := penC_ge k
    have cT : CalN P w K mg base (k + 4) "_law_term" (spLTerm K k) := ⟨f, fd, _, ih (by omega), hm, F.kp, bd⟩
    have epk : penC (k + 1) = 2 * penC k + 8 := rfl
    refine Fun.okW F scLTerm (fun vs H Q E h => by obtain ⟨a, b, c, d, e, g, rfl, _⟩ := h; rfl) (fun cdv B out s H vs Q E hr h => ?_)
    obtain ⟨p, L, lb, n, zs, b, rfl, Pn, hn, hS, nlb, hz0, hz, hnm, q⟩ := h
    refine l_cons (s_set 4 (e_c cD hr (by omega) (a_cons (e_var 0 rfl (a_cons (e_int (a_nil ⟨p, L, n, 6, rfl, Pn, by omega, by decide, by decide, fun d H1 b1 P1 hd => ?_⟩)))))) scLTerm.nd)
    refine l_cons (WS.cut (P := fun σ H2 => σ = [some (.ref p), some (.ref lb), some (.int ((k + 1 : Nat) : Int)), some (.bl b), some (.int d), none, none, none] ∧ H2 = H1) (s_if (t_w (w_and (t_eq (e_var 4 rfl (e_int ⟨rfl, fun _ => w_and1 (t_not (t_tru (e_var 3 rfl ⟨b, rfl, fun _ => ?_, fun _ => l_nil ⟨rfl, rfl⟩⟩))), fun _ => ⟨fun e => Bool.noConfusion e, fun _ => l_nil ⟨rfl, rfl⟩⟩⟩)))))) ?_)
    · refine l_one (s_ret (e_ixL (e_lst ?_)))
      iterate 3 refine a_cons (e_str ?_)
      refine a_nil ⟨by show 3 ≤ sizeLine; decide, fun l hl => ?_⟩
      refine e_c cD hr (by omega) (a_cons (e_var 0 rfl (a_cons (e_int (a_nil ⟨p, L, n + 1, 3, rfl, P1.same (same_new hl), by omega, by decide, by decide, fun d2 H2 b2 P2 hd2 => ?_⟩)))))
      have hd4 : d2 < (["a", "b", "ulm"] : List Str).length := by show d2 < 3; omega
      refine ⟨l, (["a", "b", "ulm"] : List Str).map V.str, d2, _, rfl, rfl, sqL_but b2 (P1.newP hl) (.inl (.inl upd_same)), at_map hd4, ?_⟩
      have nx := nms_of (zs := ["a", "b", "ulm"]) (by decide +kernel) _ (List.getElem_mem hd4)
      exact q _ (.str _) _ (b1.trans ((But.of (same_new hl)).trans b2)) (P2.mono (by omega)) (.str _) (.inl ⟨_, rfl, nx⟩)
    rintro σ H2 ⟨rfl, rfl⟩
    refine l_cons (WS.cut (P := fun σ H3 => σ = [some (.ref p), some (.ref lb), some (.int ((k + 1 : Nat) : Int)), some (.bl b), some (.int d), none, none, none] ∧ H3 = H2) (s_if (t_w (w_and (t_lt (e_var 4 rfl (e_int ⟨_, _, rfl, rfl, fun _ => w_and1 (t_gt (e_var 2 rfl (e_int ⟨_, _, rfl, rfl, fun e => ?_, fun _ => l_nil ⟨rfl, rfl⟩⟩))), fun _ => ⟨fun e => Bool.noConfusion e, fun _ => l_nil ⟨rfl, rfl⟩⟩⟩)))))) ?_)
    · -- a call
      refine l_cons (s_lcR 5 7 G.range scLTerm.nd (blkOk_by (N := ["_law_pen_here", "_law_labels", "_law_depth", "_law_is_inner_here", "_law_road", "_law_some_here", "_law_schema", "_law_k"]) (sc := defScope sLTerm) (by decide +kernel)) ?_ (fun _ _ _ _ _ => pg_name (i := 7) scLTerm.nd rfl (Or.inl rfl)) (sw_true rfl rfl rfl (by decide +kernel)))
      refine e_addI (e_int (e_intI G.int (e_cmp op_eq ?_)))
      refine e_c cD hr (by omega) (a_cons (e_var 0 rfl (a_cons (e_int (a_nil ⟨p, L, n + 1, 4, rfl, P1, by omega, by decide, by decide, fun d2 H3 b3 P3 hd3 => ?_⟩)))))
      refine e_int ⟨rfl, .inr ⟨_, rfl, 1, _, rfl, rfl, ?_⟩⟩
      obtain ⟨m, em, m1, m2⟩ : ∃ m : Nat, (1 : Int) + (if decide (V.int (d2 : Int) = V.int 0) = true then 1 else 0) = m ∧ 1 ≤ m ∧ m ≤ 2 := by
        by_cases h : V.int (d2 : Int) = V.int 0
        · exact ⟨2, by rw [decide_eq_true h]; rfl, by omega, by omega⟩
        · exact ⟨1, by rw [decide_eq_false h]; rfl, by omega, by omega⟩
      refine ⟨m, by rw [em], by omega, fun Dn nD => ?_⟩
      have nDp : Dn ≠ p := P3.newP nD
      have nDL : Dn ≠ L := P3.newL nD
      refine ⟨fun i H4 => ∃ vs ds, (∀ b o, b ≠ p → H3 b = some o → H4 b = some o) ∧ Pen H4 p L (n + 2 + i * penC k) ∧ H4 Dn = some (.lst vs) ∧ DTs H4 vs ds ∧ ds.length = i ∧ ∀ d ∈ ds, okTm k d, ?_, ?_, ?_⟩
      · exact ⟨[], [], fun b o _ h => same_new nD b o h, (P3.same (same_new nD)).mono (by omega), upd_same, .nil, rfl, fun d h => by cases h⟩
      · rintro i H4 hi ⟨vs, ds, k1, k2, k3, k4, k5, k6⟩ s0 H00 C cl fp
        have hb4 : But p _ H4 := b3.trans k1
        refine e_c cT hr (Nat.le_refl _) (a_cons (e_var 0 rfl (a_cons (e_var 1 rfl (a_cons (e_subI (e_var 2 rfl (e_int ⟨_, 1, rfl, rfl, a_cons (e_var 3 rfl (a_nil ⟨p, L, lb, n + 2 + i * penC k, zs, b, ?_, k2, ?_, sqL_but (b1.trans hb4) nlb hS, nlb, hz0, hz, hnm, fun v d H5 b5 P5 hv hd => ?_⟩))⟩))))))))
        · have : ((k + 1 : Nat) : Int) - 1 = (k : Int) := by omega
          rw [this]
          rfl
        · have : i * penC k ≤ 1 * penC k := Nat.mul_le_mul_right _ (by omega)
          omega
        · have d5 := b5 _ _ nDp k3
          have lv := k4.length
          refine ⟨vs, d5, ?_, vs ++ [v], ds ++ [d], fun b o nb h => ?_, ?_, upd_same, ?_, ?_, ?_⟩
          · exact Nat.lt_of_lt_of_le (show vs.length < 100 by omega) (by decide)
          · have nbD : b ≠ Dn := ne_of_none h nD
            rw [upd_ne nbD]
            exact b5 b o nb (k1 b o nb h)
          · refine (P5.upd nDp nDL).mono ?_
            rw [Nat.add_mul]
            omega
          · exact ((k4.mono (Pen.tups k2 b5)).mono (Tup.set d5)).snoc (hv.mono (Tup.set d5))
          · rw [List.length_append, k5]; rfl
          · intro x hx
            rcases List.mem_append.mp hx with hx | hx
            · exact k6 x hx
            · have e : x = d := by simpa using hx
              rw [e]; exact hd
      · rintro H4 ⟨vs, ds, k1, k2, k3, k4, k5, k6⟩
        have hb4 : But p _ H4 := b3.trans k1
        have k2' : Pen H4 p L (n + 2 + 2 * penC k) := k2.mono (by have : m * penC k ≤ 2 * penC k := Nat.mul_le_mul_right _ m2; omega)
        -- schema
        refine l_cons (s_set 6 (e_ixL (e_lst ?_)) scLTerm.nd)
        refine a_cons (e_non (a_cons (e_non (a_cons (e_str (a_cons (e_str (a_nil ⟨by show 4 ≤ sizeLine; decide, fun l hl => ?_⟩))))))))
        have s5 := same_new (o := .lst [V.non, .non, .str "main", .str "own"]) hl
        refine e_c cD hr (by omega) (a_cons (e_var 0 rfl (a_cons (e_int (a_nil ⟨p, L, n + 2 + 2 * penC k, 4, rfl, k2'.same s5, by omega, by decide, by decide, fun d5 H5 b5 P5 hd5 => ?_⟩)))))
        have hl5 : d5 < ([V.non, .non, .str "main", .str "own"] : List V).length := by show d5 < 4; omega
        refine ⟨l, _, d5, _, rfl, rfl, sqL_but b5 (k2'.newP hl) (.inl (.inl upd_same)), at_some hl5, ?_⟩
        obtain ⟨e6, he6, ok6⟩ := pick (H := H5) (ds := [.none, .none, .str "main", .str "own"]) (ok := okO) (d := d5) (.cons .non (.cons .non (.cons (.str _) (.cons (.str _) .nil)))) hl5 (fun x hx => by
          simp only [List.mem_cons, List.not_mem_nil, or_false] at hx
          rcases hx with rfl | rfl | rfl | rfl
          · exact .inl rfl
          · exact .inl rfl
          · exact .inr (okN_of (by decide +kernel))
          · exact .inr (okN_of (by decide +kernel)))
        generalize ([V.non, .non, .str "main", .str "own"] : List V)[d5] = v6 at he6
        refine l_one (s_ret (e_tup (a_cons (e_str (a_cons (e_var 6 rfl (a_cons (e_ixL (e_lst ?_)))))))))
        iterate 3 refine a_cons (e_str ?_)
        refine a_nil ⟨by show 3 ≤ sizeLine; decide, fun l2 hl2 => ?_⟩
        have s6 := same_new (o := .lst [V.str "f", .str "f", .str "g"]) hl2
        refine e_c cD hr (by omega) (a_cons (e_var 0 rfl (a_cons (e_int (a_nil ⟨p, L, n + 3 + 2 * penC k, 3, rfl, P5.same s6 |>.mono (by omega), by omega, by decide, by decide, fun d6 H6 b6 P6 hd6 => ?_⟩)))))
        have hl6 : d6 < (["f", "f", "g"] : List Str).length := by show d6 < 3; omega
        refine ⟨l2, (["f", "f", "g"] : List Str).map V.str, d6, _, rfl, rfl, sqL_but b6 (P5.newP hl2) (.inl (.inl upd_same)), at_map hl6, ?_⟩
        have nx := nms_of (zs := ["f", "f", "g"]) (by decide +kernel) _ (List.getElem_mem hl6)
        generalize (["f", "f", "g"] : List Str)[d6] = zx at nx
        have hb46 : But p H4 H6 := (But.of s5).trans (b5.trans ((But.of s6).trans b6))
        have hD6 := hb46 _ _ nDp k3
        refine a_cons (e_tupL G.tuple (e_var 5 rfl ⟨Dn, vs, rfl, .inl (.inl hD6), fun t1 ht1 => a_nil ⟨by show 4 ≤ sizeLine; decide, fun t2 ht2 => ?_⟩⟩))
        have s7 := (same_new (o := .tup vs) ht1).trans (same_new (o := .tup [V.str "call", v6, .str zx, .ref t1]) ht2)
        have P7 := P6.same s7
        have dts : DTs (upd (upd H6 t1 (.tup vs)) t2 (.tup [V.str "call", v6, .str zx, .ref t1])) vs ds := (k4.mono (Pen.tups k2 hb46)).mono (My.Same.tups s7)
        refine q _ (.tuple [.str "call", e6, .str zx, .tuple ds]) _ (b1.trans (hb4.trans (hb46.trans (But.of s7)))) (P7.mono (by omega)) (.tup upd_same (.cons (.str _) (.cons ?_ (.cons (.str _) (.cons (.tup (ds := ds) ?_ dts) .nil))))) (.inr (.inr ⟨_, _, _, rfl, ok6, ⟨_, rfl, nx⟩, by omega, by omega, k6⟩))
        · exact he6.mono ((My.Same.tups s6).trans ((Pen.tups (P5.same s6) b6).trans (My.Same.tups s7)))
        · rw [upd_ne (ne_of_none upd_same ht2)]; exact upd_same
    rintro σ H3 ⟨rfl, rfl⟩
    exact l_one (s_ret (e_c cC hr (by omega) (a_cons (e_var 0 rfl (a_cons (e_var 1 rfl (a_nil ⟨p, L, lb, n + 1, zs, rfl, P1, by omega, sqL_but b1 nlb hS, nlb, hz0, hz, hnm, fun v d H4 b4 P4 hv hd => q v d H4 (b1.trans b4) (P4.mono (by omega)) hv (.inr (.inl hd))⟩)))))))
end
end K04

namespace K04
open PySem PySem.Spec PyProof.Rows L2 My
section
variable {X : Cx} {a b : Expr} {σ : L2.St} {H : Hp} {D : Ends} {pos px py pt pt2 : Pos} {x y : Str} {kt k2 : _}
/-- x, y = a, b -/
theorem s_par (i j : Nat) (h : WA X [a, b] σ H fun vs H1 => ∃ v w, vs = [v, w] ∧ D.nx ((σ.set i (some v)).set j (some w)) H1) (hN : X.N.Nodup) (hij : i ≠ j) (hi : X.N[i]? = some x := by rfl) (hj : X.N[j]? = some y := by rfl)
    (hx : X.env.scope.names.lookup x = some .local := by rfl) (hy : X.env.scope.names.lookup y = some .local := by rfl)
    (hw : swappedStores [.Tuple [.Name x px, .Name y py] kt pt] (.Tuple [a, b] k2 pt2) X.env = pure (some [x, y]) := by rfl)
    (hs : swapsWithSole [.Tuple [.Name x px, .Name y py] kt pt] (.Tuple [a, b] k2 pt2) pos.line X.env = pure false := by rfl) (hc : X.calm = true := by rfl) :
    WS X (.Assign [.Tuple [.Name x px, .Name y py] kt pt] (.Tuple [a, b] k2 pt2) pos) D σ H := toS (ps_par hc hN hi hj hij hx hy pA hw hs) h
end
theorem flat_strs (zs : List Str) : (zs.map V.str).all flatV = true := by
  induction zs with
  | nil => rfl
  | cons z zs ih => show (true && (zs.map V.str).all flatV) = true; rw [ih]; rfl
theorem in_pos {z : Str} {zs : List Str} (h : inV (.str z) (zs.map V.str) = true) : 0 < zs.length := by
  cases zs with
  | nil => cases h
  | cons _ _ => exact Nat.succ_pos _
/-- all but the pen and one list is as it was -/
def But2 (p q : Addr) (H H' : Hp) : Prop := ∀ b o, b ≠ p → b ≠ q → H b = some o → H' b = some o
def But3 (p q r : Addr) (H H' : Hp) : Prop := ∀ b o, b ≠ p → b ≠ q → b ≠ r → H b = some o → H' b = some o
theorem But2.tups {p q : Addr} {H H' : Hp} {xs ys : List V} (k : But2 p q H H') (hp : H p = some (.lst xs)) (hq : H q = some (.lst ys)) : Tup H H' := fun b zs e => k b _ (ne_of e hp (fun z => by cases z)) (ne_of e hq (fun z => by cases z)) e
theorem But3.tups {p q r : Addr} {H H' : Hp} {xs ys ws : List V} (k : But3 p q r H H') (hp : H p = some (.lst xs)) (hq : H q = some (.lst ys)) (hr : H r = some (.lst ws)) : Tup H H' :=
  fun b zs e => k b _ (ne_of e hp (fun z => by cases z)) (ne_of e hq (fun z => by cases z)) (ne_of e hr (fun z => by cases z)) e
theorem But2.but {p q : Addr} {H H1 H2 : Hp} (k : But2 p q H H1) (b : But p H1 H2) : But2 p q H H2 := fun c o n1 n2 e => b c o n1 (k c o n1 n2 e)
theorem But3.but {p q r : Addr} {H H1 H2 : Hp} (k : But3 p q r H H1) (b : But p H1 H2) : But3 p q r H H2 := fun c o n1 n2 n3 e => b c o n1 (k c o n1 n2 n3 e)
theorem But2.upd {p q : Addr} {H H1 : Hp} {o : HO} (k : But2 p q H H1) : But2 p q H (upd H1 q o) := fun c u n1 n2 e => by rw [upd_ne n2]; exact k c u n1 n2 e
theorem But3.upd1 {p q r : Addr} {H H1 : Hp} {o : HO} (k : But3 p q r H H1) : But3 p q r H (upd H1 q o) := fun c u n1 n2 n3 e => by rw [upd_ne n2]; exact k c u n1 n2 n3 e
theorem But3.upd2 {p q r : Addr} {H H1 : Hp} {o : HO} (k : But3 p q r H H1) : But3 p q r H (upd H1 r o) := fun c u n1 n2 n3 e => by rw [upd_ne n3]; exact k c u n1 n2 n3 e
def okPl (d : PyData) : Prop := ∃ x y, d = .tuple [.str x, .str y] ∧ nm x ∧ nm y
def spStatement : Sp := fun vs H Q _ => ∃ (p L pl : Addr) (n : Nat) (xs : List V) (ds : List PyData) (b : Bool), vs = [.ref p, .ref pl, .int 3, .bl b] ∧ Pen H p L n ∧ n + 3000 < 2 ^ 40 ∧ H pl = some (.lst xs) ∧ DTs H xs ds ∧ pl ≠ p ∧ 0 < ds.length ∧ ds.length ≤ 10 ∧ (∀ d ∈ ds, okPl d) ∧
  ∀ (v : V) (d : PyData) (H' : Hp), But p H H' → Pen H' p L (n + 1000) → DT H' v d → okSt d → Q v H'
abbrev nSt : List Str := ["_law_pen_here", "_law_places", "_law_most", "_law_is_inner_here", "_law_sources_here", "_law_labels", "_law_turn", "_law_schema", "_law_nym", "_law_label", "_law_told", "_law_called", "_law_one", "_law_is_column", "_law_conditions_here", "_law_is_distinct"]
section
variable {P : Program} {w : World} {K : PySem.W.Frag} {mg : Str → Option Value} {base : Heap}
theorem scStatement : FnScope nSt ["_law_pen_here", "_law_places", "_law_most", "_law_is_inner_here"] (defScope sStatement) := ⟨rfl, rfl, rfl, by decide +kernel, rfl, by decide +kernel, by decide +kernel⟩
/-- one more source -/
theorem st_source {cdv : Value} {B : Around} {out : List Env} {s : Shared} {H H0 : Hp} {E : XK} {f : Addr} {D : Ends} (G : Bn mg) (cD : CalN P w K mg base 2 "_law_draw" spDraw) (hr : Room 9 (B.deeper (envOfC "_law_statement" (defScope sStatement) s.heap.objs.size f cdv)))
    {p L pl S Lb : Addr} {b : Bool} {t7 t8 t9 : Option V} {n : Nat} {i : Nat} {xs sx : List V} {ds sd : List PyData} {zs : List Str} {body : List Stmt} (hb : body = (match defBody sStatement with | _ :: .For _ _ l _ _ :: _ => l | _ => []))
    (Pn : Pen H p L n) (hn : n + 300 < 2 ^ 40) (hi : i < 3) (hpl : H pl = some (.lst xs)) (hds : DTs H xs ds) (npl : pl ≠ p) (d0 : 0 < ds.length) (d1 : ds.length ≤ 10) (okd : ∀ d ∈ ds, okPl d)
    (hS : H S = some (.lst sx)) (hsd : DTs H sx sd) (oks : ∀ d ∈ sd, okSrc d) (ls : sd.length ≤ i) (nSp : S ≠ p) (nSL : S ≠ L) (hL : H Lb = some (.lst (zs.map V.str))) (okz : ∀ z ∈ zs, nm z) (lz : zs.length ≤ i) (nLp : Lb ≠ p) (nLL : Lb ≠ L) (nSLb : S ≠ Lb) (nplS : pl ≠ S) (nplL : pl ≠ Lb)
    (k : ∀ (t7 t8 t9 : Option V) (sx : List V) (sd : List PyData) (zs : List Str) (H' : Hp), But3 p S Lb H H' → Pen H' p L (n + 4) → H' S = some (.lst sx) → DTs H' sx sd → (∀ d ∈ sd, okSrc d) → sd.length ≤ i + 1 → H' Lb = some (.lst (zs.map V.str)) → (∀ z ∈ zs, nm z) → zs.length ≤ i + 1 → 0 < zs.length →
      D.nx [some (.ref p), some (.ref pl), some (.int 3), some (.bl b), some (.ref S), some (.ref Lb), some (.int i), t7, t8, t9, none, none, none, none, none, none] H') :
    WL (cxOf CX0 P w K mg base nSt "_law_statement" (defScope sStatement) f cdv B out s H0 E).nox body D [some (.ref p), some (.ref pl), some (.int 3), some (.bl b), some (.ref S), some (.ref Lb), some (.int i), t7, t8, t9, none, none, none, none, none, none] H := by
  subst hb
  have lxs := hds.length
  -- schema, nym = places[..]
  refine l_cons (s_asg (pg_tup rfl (pgs_cons (pg_name (i := 7) scStatement.nd rfl (.inl rfl)) (pgs_cons (pg_name (i := 8) scStatement.nd rfl (.inl rfl)) pgs_nil))) (e_ixL (e_var 1 rfl ?_)))
  refine e_c cD hr (by decide) (a_cons (e_var 0 rfl (a_cons (e_len G.len (e_var 1 rfl ⟨pl, _, rfl, .inl (.inl (.inl hpl)), a_nil ⟨p, L, n, _, rfl, Pn, by omega, by omega, by omega, fun d H1 b1 P1 hd => ?_⟩⟩)))))
  have hd2 : d < xs.length := by omega
  have hds1 := hds.mono (Pen.tups Pn b1)
  obtain ⟨e, he, x, y, rfl, nx, ny⟩ := pick (d := d) hds1 hd2 okd
  obtain ⟨t, u1, u2, et, ht, hu1, hu2⟩ := he.tup2
  have eu1 := hu1.strE
  have eu2 := hu2.strE
  subst eu1 eu2
  refine ⟨pl, xs, d, xs[d], rfl, rfl, .inl (.inl (b1 _ _ npl hpl)), at_some hd2, t, _, et, .inl (.inl ht), rfl, _, _, rfl, _, _, rfl, rfl, ?_⟩
  have hL1 := b1 _ _ nLp hL
  have hS1 := b1 _ _ nSp hS
  -- label = ..
  refine l_cons (WS.cut (P := fun σ H2 => ∃ z, σ = [some (.ref p), some (.ref pl), some (.int 3), some (.bl b), some (.ref S), some (.ref Lb), some (.int i), some (.str x), some (.str y), some (.str z), none, none, none, none, none, none] ∧ nm z ∧ But p H1 H2 ∧ Pen H2 p L (n + 2)) (s_set 9 (e_if (t_w (w_and ?_))) scStatement.nd) ?_)
  · refine t_cmp op_notIn_seq (e_var 8 rfl (e_var 5 rfl ⟨Lb, _, rfl, .inl (.inl (.inl hL1)), rfl, flat_strs zs, _, rfl, fun _ => ?_, fun _ => ⟨fun e => Bool.noConfusion e, fun _ => ?_⟩⟩)) (by with_unfolding_all rfl)
    · refine w_and1 (t_eq ?_)
      refine e_c cD hr (by decide) (a_cons (e_var 0 rfl (a_cons (e_int (a_nil ⟨p, L, n + 1, 2, rfl, P1, by omega, by decide, by decide, fun d2 H2 b2 P2 hd2 => e_int ⟨rfl, fun _ => e_var 8 rfl ⟨y, rfl, ny, b2, P2⟩, fun _ => ?_⟩⟩)))))
      refine e_ixL (e_lst ?_)
      iterate 4 refine a_cons (e_str ?_)
      refine a_nil ⟨by show 4 ≤ sizeLine; decide, fun l hl => ?_⟩
      have hi4 : i < (["p", "q", "r", "s"] : List Str).length := by show i < 4; omega
      exact e_var 6 rfl ⟨l, (["p", "q", "r", "s"] : List Str).map V.str, i, _, rfl, rfl, .inl (.inl upd_same), at_map hi4, _, rfl, nms_of (zs := ["p", "q", "r", "s"]) (by decide +kernel) _ (List.getElem_mem hi4), b2.trans (But.of (same_new hl)), P2.same (same_new hl)⟩
    · refine e_ixL (e_lst ?_)
      iterate 4 refine a_cons (e_str ?_)
      refine a_nil ⟨by show 4 ≤ sizeLine; decide, fun l hl => ?_⟩
      have hi4 : i < (["p", "q", "r", "s"] : List Str).length := by show i < 4; omega
      exact e_var 6 rfl ⟨l, (["p", "q", "r", "s"] : List Str).map V.str, i, _, rfl, rfl, .inl (.inl upd_same), at_map hi4, _, rfl, nms_of (zs := ["p", "q", "r", "s"]) (by decide +kernel) _ (List.getElem_mem hi4), But.of (same_new hl), (P1.same (same_new hl)).mono (by omega)⟩
  rintro σ H2 ⟨z, rfl, nz, b2, P2⟩
  have hL2 := b2 _ _ nLp hL1
  have hS2 := b2 _ _ nSp hS1
  have hsd2 := (hsd.mono (Pen.tups Pn b1)).mono (Pen.tups P1 b2)
  have k02 : But3 p S Lb H H2 := fun c o n1 _ _ e => b2 c o n1 (b1 c o n1 e)
  -- if label not in labels
  refine l_one (s_if (t_cmp op_notIn_seq (e_var 9 rfl (e_var 5 rfl ⟨Lb, _, rfl, .inl (.inl (.inl hL2)), rfl, flat_strs zs, _, rfl, fun _ => ?_, fun e => l_nil ?_⟩)) (by with_unfolding_all rfl)))
  · refine l_cons (s_app (e_var 5 rfl ⟨⟨Lb, _, rfl, .inl (.inl hL2)⟩, e_var 9 rfl ⟨Lb, _, rfl, hL2, by rw [List.length_map]; exact Nat.lt_of_lt_of_le (show zs.length < 100 by omega) (by decide), ?_⟩⟩))
    have P3 : Pen (upd H2 Lb (.lst (zs.map V.str ++ [.str z]))) p L (n + 2) := P2.upd nLp nLL
    have hS3 : (upd H2 Lb (.lst (zs.map V.str ++ [.str z]))) S = some (.lst sx) := by rw [upd_ne nSLb]; exact hS2
    have hL3 : (upd H2 Lb (.lst (zs.map V.str ++ [.str z]))) Lb = some (.lst ((zs ++ [z]).map V.str)) := by rw [upd_same, List.map_append]; rfl
    have hsd3 := hsd2.mono (Tup.set (o := .lst (zs.map V.str ++ [.str z])) hL2)
    have k03 : But3 p S Lb H (upd H2 Lb (.lst (zs.map V.str ++ [.str z]))) := k02.upd2
    generalize (upd H2 Lb (.lst (zs.map V.str ++ [.str z]))) = H3 at P3 hS3 hL3 hsd3 k03
    refine l_one (s_app (e_var 4 rfl ⟨⟨S, _, rfl, .inl (.inl hS3)⟩, e_tup (a_cons (e_if (t_eq ?_)))⟩))
    refine e_c cD hr (by decide) (a_cons (e_var 0 rfl (a_cons (e_int (a_nil ⟨p, L, n + 2, 2, rfl, P3, by omega, by decide, by decide, fun d4 H4 b4 P4 _ => e_int ⟨rfl, fun _ => e_non ?_, fun _ => e_var 7 rfl ?_⟩⟩)))))
    all_goals
      refine a_cons (e_var 8 rfl (a_cons (e_var 9 rfl (a_nil ⟨by show 3 ≤ sizeLine; decide, fun tp htp => ?_⟩))))
      have hS4 := b4 _ _ nSp hS3
      have hL4 := b4 _ _ nLp hL3
      refine ⟨S, sx, rfl, same_new htp _ _ hS4, Nat.lt_of_lt_of_le (show sx.length < 100 by have := hsd.length; omega) (by decide), ?_⟩
      have hsd4 := hsd3.mono (Pen.tups P3 b4)
    · refine k _ _ _ (sx ++ [.ref tp]) (sd ++ [.tuple [.none, .str y, .str z]]) (zs ++ [z]) _ ((k03.but (b4.trans (But.of (same_new htp)))).upd1) (((P4.same (same_new htp)).upd nSp nSL).mono (by omega)) upd_same ?_ ?_ ?_ ?_ ?_ ?_ ?_
      · exact ((hsd4.mono (Tup.new htp)).mono (Tup.set (same_new htp _ _ hS4))).snoc (.tup (by rw [upd_ne (ne_of_none hS4 htp).symm, upd_same]) (.cons .non (.cons (.str _) (.cons (.str _) .nil))))
      · intro d hd
        rcases List.mem_append.mp hd with hd | hd
        · exact oks d hd
        · have e : d = .tuple [.none, .str y, .str z] := by simpa using hd
          rw [e]; exact ⟨_, _, _, rfl, .inl rfl, ⟨_, rfl, ny⟩, ⟨_, rfl, nz⟩⟩
      · rw [List.length_append]; exact Nat.succ_le_succ ls
      · rw [upd_ne nSLb.symm]; exact same_new htp _ _ hL4
      · intro w hw
        rcases List.mem_append.mp hw with hw | hw
        · exact okz w hw
        · have e : w = z := by simpa using hw
          rw [e]; exact nz
      · rw [List.length_append]; exact Nat.succ_le_succ lz
      · rw [List.length_append]; exact Nat.succ_pos _
    · refine k _ _ _ (sx ++ [.ref tp]) (sd ++ [.tuple [.str x, .str y, .str z]]) (zs ++ [z]) _ ((k03.but (b4.trans (But.of (same_new htp)))).upd1) (((P4.same (same_new htp)).upd nSp nSL).mono (by omega)) upd_same ?_ ?_ ?_ ?_ ?_ ?_ ?_
      · exact ((hsd4.mono (Tup.new htp)).mono (Tup.set (same_new htp _ _ hS4))).snoc (.tup (by rw [upd_ne (ne_of_none hS4 htp).symm, upd_same]) (.cons (.str _) (.cons (.str _) (.cons (.str _) .nil))))
      · intro d hd
        rcases List.mem_append.mp hd with hd | hd
        · exact oks d hd
        · have e : d = .tuple [.str x, .str y, .str z] := by simpa using hd
          rw [e]; exact ⟨_, _, _, rfl, .inr ⟨_, rfl, nx⟩, ⟨_, rfl, ny⟩, ⟨_, rfl, nz⟩⟩
      · rw [List.length_append]; exact Nat.succ_le_succ ls
      · rw [upd_ne nSLb.symm]; exact same_new htp _ _ hL4
      · intro w hw
        rcases List.mem_append.mp hw with hw | hw
        · exact okz w hw
        · have e : w = z := by simpa using hw
          rw [e]; exact nz
      · rw [List.length_append]; exact Nat.succ_le_succ lz
      · rw [List.length_append]; exact Nat.succ_pos _
  · refine k _ _ _ sx sd zs H2 k02 (P2.mono (by omega)) hS2 hsd2 oks (by omega) hL2 okz (by omega) (in_pos (z := z) ?_)
    simpa using e
end
end K04

namespace K04
open PySem PySem.Spec PyProof.Rows L2 My
theorem okTm_mono : ∀ (k : Nat) {d : PyData}, okTm k d → okTm (k + 1) d
  | 0, d, h => by
    rcases h with h | h
    · exact .inl h
    · exact .inr (.inl h)
  | k + 1, d, h => by
    rcases h with h | h | ⟨s, n, ts, e, hs, hn, h1, h2, h3⟩
    · exact .inl h
    · exact .inr (.inl h)
    · exact .inr (.inr ⟨s, n, ts, e, hs, hn, h1, h2, fun t ht => okTm_mono k (h3 t ht)⟩)
theorem okTm_le {k j : Nat} (h : k ≤ j) {d : PyData} (hd : okTm k d) : okTm j d := by
  induction j with
  | zero => cases Nat.le_zero.mp h; exact hd
  | succ j ih =>
    by_cases e : k = j + 1
    · subst e; exact hd
    · exact okTm_mono j (ih (by omega))
theorem penC_90 : ∀ k, k ≤ 3 → penC k ≤ 90 := by decide
def spLTermA (K : PySem.W.Frag) : Sp := fun vs H Q E => ∃ k, k ≤ 3 ∧ spLTerm K k vs H Q E
section
variable {P : Program} {w : World} {K : PySem.W.Frag} {mg : Str → Option Value} {base : Heap}
theorem ok_ltermA {f : Addr} {fd : FuncData} {ps : List Str} (F : ∀ k, k ≤ 3 → FnOk P w K mg base CX0 (k + 4) f fd ps (spLTerm K k)) : FnOk P w K mg base CX0 7 f fd ps (spLTermA K) :=
  ⟨fun vs H Q E ⟨k, hk, h⟩ => (F k hk).len vs H Q E h, fun A outer s H args us vs Q E hr e hb hv ⟨k, hk, hs⟩ => (F k hk).run A outer s H args us vs Q E (hr.mono (by omega)) e hb hv hs⟩
/-- one more told thing -/
theorem st_told {cdv : Value} {B : Around} {out : List Env} {s : Shared} {H H0 : Hp} {E : XK} {f : Addr} {D : Ends} (G : Bn mg) (cD : CalN P w K mg base 2 "_law_draw" spDraw) (cT : CalN P w K mg base 7 "_law_term" (spLTermA K)) (hr : Room 9 (B.deeper (envOfC "_law_statement" (defScope sStatement) s.heap.objs.size f cdv)))
    {p L pl S Lb T : Addr} {b : Bool} {t7 t8 t9 t11 t12 t13 : Option V} {n : Nat} {i : Nat} {tx : List V} {td : List PyData} {zs : List Str} {body : List Stmt} (hb : body = (match defBody sStatement with | _ :: _ :: _ :: .For _ _ l _ _ :: _ => l | _ => []))
    (Pn : Pen H p L n) (hn : n + 600 < 2 ^ 40) (hi : i < 3)
    (hT : H T = some (.lst tx)) (htd : DTs H tx td) (okt : ∀ d ∈ td, okTold d) (lt : td.length ≤ i) (nTp : T ≠ p) (nTL : T ≠ L) (hL : H Lb = some (.lst (zs.map V.str))) (okz : ∀ z ∈ zs, nm z) (l0 : 0 < zs.length) (lz : zs.length ≤ 10) (nLp : Lb ≠ p) (nLT : Lb ≠ T)
    (k : ∀ (t11 t12 t13 : Option V) (tx : List V) (td : List PyData) (H' : Hp), But2 p T H H' → Pen H' p L (n + 100) → H' T = some (.lst tx) → DTs H' tx td → (∀ d ∈ td, okTold d) → td.length ≤ i + 1 →
      D.nx [some (.ref p), some (.ref pl), some (.int 3), some (.bl b), some (.ref S), some (.ref Lb), some (.int i), t7, t8, t9, some (.ref T), t11, t12, t13, none, none] H') :
    WL (cxOf CX0 P w K mg base nSt "_law_statement" (defScope sStatement) f cdv B out s H0 E).nox body D [some (.ref p), some (.ref pl), some (.int 3), some (.bl b), some (.ref S), some (.ref Lb), some (.int i), t7, t8, t9, some (.ref T), t11, t12, t13, none, none] H := by
  subst hb
  -- called
  refine l_cons (WS.cut (P := fun σ H1 => ∃ c, σ = [some (.ref p), some (.ref pl), some (.int 3), some (.bl b), some (.ref S), some (.ref Lb), some (.int i), t7, t8, t9, some (.ref T), some (.str c), t12, t13, none, none] ∧ nm c ∧ But p H H1 ∧ Pen H1 p L (n + 1)) (s_set 11 (e_if (t_tru (e_var 3 rfl ⟨b, rfl, fun _ => ?_, fun _ => ?_⟩))) scStatement.nd) ?_)
  · refine e_ixL (e_lst ?_)
    iterate 5 refine a_cons (e_str ?_)
    refine a_nil ⟨by show 5 ≤ sizeLine; decide, fun l hl => ?_⟩
    have hi4 : i < (["id", "who", "c", "town", "name"] : List Str).length := by show i < 5; omega
    exact e_var 6 rfl ⟨l, (["id", "who", "c", "town", "name"] : List Str).map V.str, i, _, rfl, rfl, .inl (.inl upd_same), at_map hi4, _, rfl, nms_of (zs := ["id", "who", "c", "town", "name"]) (by decide +kernel) _ (List.getElem_mem hi4), But.of (same_new hl), (Pn.same (same_new hl)).mono (by omega)⟩
  · refine e_ixL (e_lst ?_)
    iterate 3 refine a_cons (e_str ?_)
    refine a_nil ⟨by show 3 ≤ sizeLine; decide, fun l hl => ?_⟩
    refine e_c cD hr (by decide) (a_cons (e_var 0 rfl (a_cons (e_int (a_nil ⟨p, L, n, 3, rfl, Pn.same (same_new hl), by omega, by decide, by decide, fun d H1 b1 P1 hd => ?_⟩)))))
    have hi4 : d < (["id", "id", "who"] : List Str).length := by show d < 3; omega
    exact ⟨l, (["id", "id", "who"] : List Str).map V.str, d, _, rfl, rfl, .inl (.inl (b1 _ _ (Pn.newP hl) upd_same)), at_map hi4, _, rfl, nms_of (zs := ["id", "id", "who"]) (by decide +kernel) _ (List.getElem_mem hi4), (But.of (same_new hl)).trans b1, P1⟩
  rintro σ H1 ⟨c, rfl, nc, b1, P1⟩
  have hT1 := b1 _ _ nTp hT
  have hL1 := b1 _ _ nLp hL
  have td1 := htd.mono (Pen.tups Pn b1)
  have ltx := htd.length
  -- the other way
  have other : ∀ H2, But p H1 H2 → Pen H2 p L (n + 2) → WL (cxOf CX0 P w K mg base nSt "_law_statement" (defScope sStatement) f cdv B out s H0 E).nox (match defBody sStatement with | _ :: _ :: _ :: .For _ _ [_, .If _ _ l _] _ _ :: _ => l | _ => []) D [some (.ref p), some (.ref pl), some (.int 3), some (.bl b), some (.ref S), some (.ref Lb), some (.int i), t7, t8, t9, some (.ref T), some (.str c), t12, t13, none, none] H2 := by
    intro H2 b2 P2
    have hT2 := b2 _ _ nTp hT1
    have hL2 := b2 _ _ nLp hL1
    have td2 := td1.mono (Pen.tups P1 b2)
    refine l_cons (s_set 12 ?_ scStatement.nd)
    refine e_c cT hr (by decide) (a_cons (e_var 0 rfl (a_cons (e_var 5 rfl (a_cons (e_addI (e_int ?_)))))))
    refine e_c cD hr (by decide) (a_cons (e_var 0 rfl (a_cons (e_int (a_nil ⟨p, L, n + 2, 3, rfl, P2, by omega, by decide, by decide, fun d3 H3 b3 P3 hd3 => ?_⟩)))))
    have hL3 := b3 _ _ nLp hL2
    have e13 : penC (d3 + 1) ≤ 90 := penC_90 (d3 + 1) (by omega)
    refine ⟨1, d3, rfl, rfl, a_cons (e_var 3 rfl (a_nil ⟨d3 + 1, by omega, p, L, Lb, n + 3, zs, b, ?_, P3, by omega, .inl (.inl hL3), nLp, l0, by omega, okz, fun v d H4 b4 P4 hv hd => ?_⟩))⟩
    · have : (1 : Int) + (d3 : Int) = ((d3 + 1 : Nat) : Int) := by omega
      rw [this]
      rfl
    have hT4 := b4 _ _ nTp (b3 _ _ nTp hT2)
    have td4 := (td2.mono (Pen.tups P2 b3)).mono (Pen.tups P3 b4)
    have b04 : But p H H4 := b1.trans (b2.trans (b3.trans b4))
    have fin : ∀ (ic : Bool) (tc : Option V) (kd : PyData) (z : Str), okTold (.tuple [.str z, d, .str c]) → ∀ H5 tp, H4 tp = none → H5 = upd H4 tp (.tup [.str z, v, .str c]) → D.nx [some (.ref p), some (.ref pl), some (.int 3), some (.bl b), some (.ref S), some (.ref Lb), some (.int i), t7, t8, t9, some (.ref T), some (.str c), some v, some (.bl ic), none, none] (upd H5 T (.lst (tx ++ [.ref tp]))) := by
      intro ic _ _ z hok H5 tp htp eH
      subst eH
      have s5 := same_new (o := .tup [V.str z, v, .str c]) htp
      refine k _ _ _ (tx ++ [.ref tp]) (td ++ [.tuple [.str z, d, .str c]]) _ (But2.upd (fun x u n1 n2 e => s5 _ _ (b04 x u n1 e))) (((P4.same s5).upd nTp nTL).mono (by omega)) upd_same ?_ ?_ ?_
      · exact ((td4.mono (My.Same.tups s5)).mono (Tup.set (s5 _ _ hT4))).snoc (.tup (by rw [upd_ne (ne_of_none hT4 htp).symm, upd_same]) (.cons (.str _) (.cons ((hv.mono (My.Same.tups s5)).mono (Tup.set (s5 _ _ hT4))) (.cons (.str _) .nil))))
      · intro x hx
        rcases List.mem_append.mp hx with hx | hx
        · exact okt x hx
        · have e : x = .tuple [.str z, d, .str c] := by simpa using hx
          rw [e]; exact hok
      · rw [List.length_append]; exact Nat.succ_le_succ lt
    rcases hd.cases with hN | hC | ⟨j, ej, hK⟩
    · obtain ⟨m, rfl, hm⟩ := hN
      have ev := hv.strE
      subst ev
      refine l_cons (s_set 13 (e_and (e_isi G.isi G.tuple PyProof.Rows.boot_tuple (e_var 12 rfl ⟨"str", false, ty_str, st, false, rfl, fun e => Bool.noConfusion e, fun _ => ?_⟩))) scStatement.nd)
      refine l_one (s_app (e_var 10 rfl ⟨⟨T, _, rfl, .inl (.inl hT4)⟩, e_tup (a_cons (e_if (t_tru (e_var 13 rfl ⟨false, (show TruV _ (V.bl false) _ false from rfl), fun e => Bool.noConfusion e, fun _ => e_str (a_cons (e_var 12 rfl (a_cons (e_var 11 rfl (a_nil ⟨by show 3 ≤ sizeLine; decide, fun tp htp => ?_⟩)))))⟩))))⟩))
      exact ⟨T, tx, rfl, same_new htp _ _ hT4, Nat.lt_of_lt_of_le (show tx.length < 100 by omega) (by decide), fin _ none .none "term" (.inr (.inr ⟨_, _, rfl, .inl ⟨m, rfl, hm⟩, ⟨c, rfl, nc⟩⟩)) _ tp htp rfl⟩
    · obtain ⟨a, e, rfl, ha, he⟩ := hC
      obtain ⟨t, u1, u2, rfl, ht, _, _⟩ := hv.tup2
      refine l_cons (s_set 13 (e_and (e_isi G.isi G.tuple PyProof.Rows.boot_tuple (e_var 12 rfl ⟨"tuple", true, ty_tup ht, tt, true, rfl, fun _ => e_one (e_cmp op_eq (e_len G.len (e_var 12 rfl ⟨t, _, rfl, .inr (.inl (.inl ht)), e_int ⟨rfl, ?_⟩⟩))), fun e => Bool.noConfusion e⟩))) scStatement.nd)
      refine l_one (s_app (e_var 10 rfl ⟨⟨T, _, rfl, .inl (.inl hT4)⟩, e_tup (a_cons (e_if (t_tru (e_var 13 rfl ⟨true, (show TruV _ (V.bl (decide (V.int (2 : Int) = V.int 2))) _ true from (decide_eq_true rfl).symm), fun _ => e_str (a_cons (e_var 12 rfl (a_cons (e_var 11 rfl (a_nil ⟨by show 3 ≤ sizeLine; decide, fun tp htp => ?_⟩))))), fun e => Bool.noConfusion e⟩))))⟩))
      exact ⟨T, tx, rfl, same_new htp _ _ hT4, Nat.lt_of_lt_of_le (show tx.length < 100 by omega) (by decide), fin _ none .none "column" (.inr (.inl ⟨a, e, _, rfl, ha, he, ⟨c, rfl, nc⟩⟩)) _ tp htp rfl⟩
    · obtain ⟨sc, nn, ts', rfl, hs', hn', h1', h2', h3'⟩ := hK
      obtain ⟨t, u1, u2, u3, u4, rfl, ht, _, _, _, _⟩ := hv.tup4
      refine l_cons (s_set 13 (e_and (e_isi G.isi G.tuple PyProof.Rows.boot_tuple (e_var 12 rfl ⟨"tuple", true, ty_tup ht, tt, true, rfl, fun _ => e_one (e_cmp op_eq (e_len G.len (e_var 12 rfl ⟨t, _, rfl, .inr (.inl (.inl ht)), e_int ⟨rfl, ?_⟩⟩))), fun e => Bool.noConfusion e⟩))) scStatement.nd)
      refine l_one (s_app (e_var 10 rfl ⟨⟨T, _, rfl, .inl (.inl hT4)⟩, e_tup (a_cons (e_if (t_tru (e_var 13 rfl ⟨false, (show TruV _ (V.bl (decide (V.int (4 : Int) = V.int 2))) _ false from (decide_eq_false (by decide)).symm), fun e => Bool.noConfusion e, fun _ => e_str (a_cons (e_var 12 rfl (a_cons (e_var 11 rfl (a_nil ⟨by show 3 ≤ sizeLine; decide, fun tp htp => ?_⟩)))))⟩))))⟩))
      exact ⟨T, tx, rfl, same_new htp _ _ hT4, Nat.lt_of_lt_of_le (show tx.length < 100 by omega) (by decide), fin _ none .none "term" (.inr (.inr ⟨_, _, rfl, .inr ⟨_, _, _, rfl, hs', hn', h1', h2', fun x hx => okTm_le (show j ≤ 2 by omega) (h3' x hx)⟩, ⟨c, rfl, nc⟩⟩)) _ tp htp rfl⟩
  refine l_one (s_if (t_w (w_and (t_not (t_tru (e_var 3 rfl ⟨b, rfl, fun _ => ?_, fun _ => ⟨fun e => Bool.noConfusion e, fun _ => other H1 (But.refl _ _) (P1.mono (by omega))⟩⟩))))))
  refine w_and1 (t_eq ?_)
  refine e_c cD hr (by decide) (a_cons (e_var 0 rfl (a_cons (e_int (a_nil ⟨p, L, n + 1, 4, rfl, P1, by omega, by decide, by decide, fun d2 H2 b2 P2 hd2 => e_int ⟨rfl, fun _ => ?_, fun _ => other H2 b2 P2⟩⟩)))))
  have hT2 := b2 _ _ nTp hT1
  have hL2 := b2 _ _ nLp hL1
  have td2 := td1.mono (Pen.tups P1 b2)
  refine l_one (s_app (e_var 10 rfl ⟨⟨T, _, rfl, .inl (.inl hT2)⟩, e_tup (a_cons (e_str (a_cons (e_ixL (e_var 5 rfl ?_)))))⟩))
  refine e_c cD hr (by decide) (a_cons (e_var 0 rfl (a_cons (e_len G.len (e_var 5 rfl ⟨Lb, _, rfl, .inl (.inl (.inl hL2)), a_nil ⟨p, L, n + 2, _, rfl, P2, by omega, by rw [List.length_map]; omega, by rw [List.length_map]; omega, fun d3 H3 b3 P3 hd3 => ?_⟩⟩)))))
  rw [List.length_map] at hd3
  have hd4 : d3 < zs.length := by omega
  have nz := okz _ (List.getElem_mem hd4)
  refine ⟨Lb, _, d3, _, rfl, rfl, .inl (.inl (b3 _ _ nLp hL2)), at_map hd4, ?_⟩
  generalize zs[d3] = z at nz
  refine a_nil ⟨by show 2 ≤ sizeLine; decide, fun tp htp => ?_⟩
  have hT3 := b3 _ _ nTp hT2
  have td3 := td2.mono (Pen.tups P2 b3)
  have s5 := same_new (o := .tup [V.str "star", .str z]) htp
  refine ⟨T, tx, rfl, s5 _ _ hT3, Nat.lt_of_lt_of_le (show tx.length < 100 by omega) (by decide), ?_⟩
  refine k _ _ _ (tx ++ [.ref tp]) (td ++ [.tuple [.str "star", .str z]]) _ (But2.upd (fun x u n1 n2 e => s5 _ _ (b3 _ _ n1 (b2 _ _ n1 (b1 x u n1 e))))) (((P3.same s5).upd nTp nTL).mono (by omega)) upd_same ?_ ?_ ?_
  · exact ((td3.mono (My.Same.tups s5)).mono (Tup.set (s5 _ _ hT3))).snoc (.tup (by rw [upd_ne (ne_of_none hT3 htp).symm, upd_same]) (.cons (.str _) (.cons (.str _) .nil)))
  · intro x hx
    rcases List.mem_append.mp hx with hx | hx
    · exact okt x hx
    · have e : x = .tuple [.str "star", .str z] := by simpa using hx
      rw [e]; exact .inl ⟨_, rfl, ⟨z, rfl, nz⟩⟩
  · rw [List.length_append]; exact Nat.succ_le_succ lt
end
end K04

namespace K04
open PySem PySem.Spec PyProof.Rows L2 My
section
variable {P : Program} {w : World} {K : PySem.W.Frag} {mg : Str → Option Value} {base : Heap}
/-- one more condition -/
theorem st_cond {cdv : Value} {B : Around} {out : List Env} {s : Shared} {H H0 : Hp} {E : XK} {f : Addr} {D : Ends} (G : Bn mg) (cD : CalN P w K mg base 2 "_law_draw" spDraw) (cC : CalN P w K mg base 3 "_law_cell" (spCell K)) (cW : CalN P w K mg base 4 "_law_worths" spWorths) (hr : Room 9 (B.deeper (envOfC "_law_statement" (defScope sStatement) s.heap.objs.size f cdv)))
    {p L pl S Lb T C : Addr} {b : Bool} {t7 t8 t9 t11 t12 t13 : Option V} {n : Nat} {i : Nat} {cx : List V} {cd : List PyData} {zs : List Str} {body : List Stmt} (hb : body = (match defBody sStatement with | _ :: _ :: _ :: _ :: _ :: .For _ _ l _ _ :: _ => l | _ => []))
    (Pn : Pen H p L n) (hn : n + 600 < 2 ^ 40) (hi : i < 3)
    (hC : H C = some (.lst cx)) (hcd : DTs H cx cd) (okc : ∀ d ∈ cd, okCond d) (lc : cd.length ≤ i) (nCp : C ≠ p) (nCL : C ≠ L) (hL : H Lb = some (.lst (zs.map V.str))) (okz : ∀ z ∈ zs, nm z) (l0 : 0 < zs.length) (lz : zs.length ≤ 10) (nLp : Lb ≠ p)
    (k : ∀ (t12 : Option V) (cx : List V) (cd : List PyData) (H' : Hp), But2 p C H H' → Pen H' p L (n + 110) → H' C = some (.lst cx) → DTs H' cx cd → (∀ d ∈ cd, okCond d) → cd.length ≤ i + 1 →
      D.nx [some (.ref p), some (.ref pl), some (.int 3), some (.bl b), some (.ref S), some (.ref Lb), some (.int i), t7, t8, t9, some (.ref T), t11, t12, t13, some (.ref C), none] H') :
    WL (cxOf CX0 P w K mg base nSt "_law_statement" (defScope sStatement) f cdv B out s H0 E).nox body D [some (.ref p), some (.ref pl), some (.int 3), some (.bl b), some (.ref S), some (.ref Lb), some (.int i), t7, t8, t9, some (.ref T), t11, t12, t13, some (.ref C), none] H := by
  subst hb
  have lcx := hcd.length
  refine l_cons (s_set 12 (e_c cC hr (by decide) (a_cons (e_var 0 rfl (a_cons (e_var 5 rfl (a_nil ⟨p, L, Lb, n, zs, rfl, Pn, by omega, .inl (.inl hL), nLp, l0, by omega, okz, fun v d H1 b1 P1 hv hd => ?_⟩)))))) scStatement.nd)
  have hC1 := b1 _ _ nCp hC
  have hL1 := b1 _ _ nLp hL
  have cd1 := hcd.mono (Pen.tups Pn b1)
  have fin : ∀ (e : PyData) (H4 : Hp) (tp : Addr) (ys : List V), But p H1 H4 → Pen H4 p L (n + 110) → DTs H4 ys (match e with | .tuple es => es | _ => []) → (∃ es, e = .tuple es) → okCond e → H4 tp = none →
      D.nx [some (.ref p), some (.ref pl), some (.int 3), some (.bl b), some (.ref S), some (.ref Lb), some (.int i), t7, t8, t9, some (.ref T), t11, some v, t13, some (.ref C), none] (upd (upd H4 tp (.tup ys)) C (.lst (cx ++ [.ref tp]))) := by
    intro e H4 tp ys b4 P4 hys hes hok htp
    obtain ⟨es, rfl⟩ := hes
    have hC4 := b4 _ _ nCp hC1
    have s5 := same_new (o := .tup ys) htp
    refine k _ (cx ++ [.ref tp]) (cd ++ [.tuple es]) _ (But2.upd (fun x u n1 n2 e => s5 _ _ (b4 _ _ n1 (b1 x u n1 e)))) ((P4.same s5).upd nCp nCL) upd_same ?_ ?_ ?_
    · exact (((cd1.mono (Pen.tups P1 b4)).mono (My.Same.tups s5)).mono (Tup.set (s5 _ _ hC4))).snoc (.tup (by rw [upd_ne (ne_of_none hC4 htp).symm, upd_same]) ((DTs.mono (My.Same.tups s5) hys).mono (Tup.set (s5 _ _ hC4))))
    · intro x hx
      rcases List.mem_append.mp hx with hx | hx
      · exact okc x hx
      · have e : x = .tuple es := by simpa using hx
        rw [e]; exact hok
    · rw [List.length_append]; exact Nat.succ_le_succ lc
  have lt1 : cx.length < sizeLine := Nat.lt_of_lt_of_le (show cx.length < 100 by omega) (by decide)
  refine l_one (s_if (t_eq ?_))
  refine e_c cD hr (by decide) (a_cons (e_var 0 rfl (a_cons (e_int (a_nil ⟨p, L, n + 3, 2, rfl, P1, by omega, by decide, by decide, fun d2 H2 b2 P2 hd2 => e_int ⟨rfl, fun _ => ?_, fun _ => ?_⟩⟩)))))
  · have hC2 := b2 _ _ nCp hC1
    refine l_one (s_app (e_var 14 rfl ⟨⟨C, _, rfl, .inl (.inl hC2)⟩, e_tup (a_cons (e_str (a_cons (e_var 12 rfl (a_cons ?_)))))⟩))
    refine e_c cW hr (by decide) (a_cons (e_var 0 rfl (a_nil ⟨p, L, n + 4, rfl, P2, by omega, fun u ds H3 b3 P3 hu hl3 hok3 => a_nil ⟨by show 3 ≤ sizeLine; decide, fun tp htp => ?_⟩⟩)))
    have hC3 := b3 _ _ nCp hC2
    refine ⟨C, cx, rfl, same_new htp _ _ hC3, lt1, fin (.tuple [.str "in", d, .tuple ds]) H3 tp _ (b2.trans b3) (P3.mono (by omega)) (.cons (.str _) (.cons ((hv.mono (Pen.tups P1 b2)).mono (Pen.tups P2 b3)) (.cons hu .nil))) ⟨_, rfl⟩ (.inr ⟨d, ds, rfl, hd, hl3, hok3⟩) htp⟩
  · have hC2 := b2 _ _ nCp hC1
    have hL2 := b2 _ _ nLp hL1
    refine l_one (s_app (e_var 14 rfl ⟨⟨C, _, rfl, .inl (.inl hC2)⟩, e_tup (a_cons (e_str (a_cons (e_var 12 rfl (a_cons ?_)))))⟩))
    refine e_c cC hr (by decide) (a_cons (e_var 0 rfl (a_cons (e_var 5 rfl (a_nil ⟨p, L, Lb, n + 4, zs, rfl, P2, by omega, .inl (.inl hL2), nLp, l0, by omega, okz, fun u d3 H3 b3 P3 hu hd3 => a_nil ⟨by show 3 ≤ sizeLine; decide, fun tp htp => ?_⟩⟩)))))
    have hC3 := b3 _ _ nCp hC2
    refine ⟨C, cx, rfl, same_new htp _ _ hC3, lt1, fin (.tuple [.str "equal", d, d3]) H3 tp _ (b2.trans b3) (P3.mono (by omega)) (.cons (.str _) (.cons ((hv.mono (Pen.tups P1 b2)).mono (Pen.tups P2 b3)) (.cons hu .nil))) ⟨_, rfl⟩ (.inl ⟨d, d3, rfl, hd, hd3⟩) htp⟩
theorem never {X : Cx} (hc : PassesOwn (model X.prog X.w) X.A X.env X.xe) : PassesOwn (model X.prog X.w) X.A X.env X.xe := hc
theorem ok_statement {f : Addr} {fd : FuncData} (F : Fun K "_law_statement" "_law_statement" sStatement f fd) (G : Bn mg) (cD : CalN P w K mg base 2 "_law_draw" spDraw) (cT : CalN P w K mg base 7 "_law_term" (spLTermA K)) (cC : CalN P w K mg base 3 "_law_cell" (spCell K)) (cW : CalN P w K mg base 4 "_law_worths" spWorths) : FnOk P w K mg base CX0 10 f fd ["_law_pen_here", "_law_places", "_law_most", "_law_is_inner_here"] spStatement := by
  refine Fun.okW F scStatement (fun vs H Q E h => by obtain ⟨a, b, c, d, e, g, i, rfl, _⟩ := h; rfl) (fun cdv B out s H vs Q E hr h => ?_)
  obtain ⟨p, L, pl, n, xs, ds, b, rfl, Pn, hn, hpl, hds, npl, d0, d1, okd, q⟩ := h
  -- two lists
  refine l_cons (s_par 4 5 (a_cons (e_lst (a_nil ⟨Nat.zero_le _, fun S hS => a_cons (e_lst (a_nil ⟨Nat.zero_le _, fun Lb hLb => a_nil ⟨_, _, rfl, ?_⟩⟩))⟩))) scStatement.nd (by decide))
  have nSp := Pn.newP hS
  have nSL := Pn.newL hS
  have P1 := Pn.same (same_new (o := .lst []) hS)
  have nLp := P1.newP hLb
  have nLL := P1.newL hLb
  have nSLb : S ≠ Lb := ne_of_none upd_same hLb
  have sHL := (same_new (o := .lst []) hS).trans (same_new (o := .lst []) hLb)
  have P2 := P1.same (same_new (o := .lst []) hLb)
  have hS2 : (upd (upd H S (.lst [])) Lb (.lst [])) S = some (.lst []) := by rw [upd_ne nSLb]; exact upd_same
  have hL2 : (upd (upd H S (.lst [])) Lb (.lst [])) Lb = some (.lst []) := upd_same
  have hLbH : H Lb = none := (same_new hS).free hLb
  have hpl2 := sHL _ _ hpl
  have hds2 := hds.mono (My.Same.tups sHL)
  have nplS : pl ≠ S := ne_of_none hpl hS
  have nplL : pl ≠ Lb := ne_of_none hpl hLbH
  generalize (upd (upd H S (.lst [])) Lb (.lst [])) = H2 at P2 hS2 hL2 sHL hpl2 hds2
  -- the sources
  refine l_cons (s_forR G.range (pg_name (i := 6) scStatement.nd rfl (.inl rfl)) (e_addI (e_int ?_)) PassesOwn.never)
  refine e_c cD hr (by decide) (a_cons (e_var 0 rfl (a_cons (e_var 2 rfl (a_nil ⟨p, L, n, 3, rfl, P2, by omega, by decide, by decide, fun dm H3 b3 P3 hdm => ?_⟩)))))
  refine ⟨1, dm, rfl, rfl, dm + 1, by rw [show (1 : Int) + (dm : Int) = ((dm + 1 : Nat) : Int) by omega], by omega, fun i σ H4 => ∃ (t6 t7 t8 t9 : Option V) (sx : List V) (sd : List PyData) (zs : List Str),
    σ = [some (.ref p), some (.ref pl), some (.int 3), some (.bl b), some (.ref S), some (.ref Lb), t6, t7, t8, t9, none, none, none, none, none, none] ∧ But3 p S Lb H2 H4 ∧ Pen H4 p L (n + 1 + i * 4) ∧ H4 S = some (.lst sx) ∧ DTs H4 sx sd ∧ (∀ d ∈ sd, okSrc d) ∧ sd.length ≤ i ∧
    H4 Lb = some (.lst (zs.map V.str)) ∧ (∀ z ∈ zs, nm z) ∧ zs.length ≤ i ∧ (0 < i → 0 < zs.length), ?_, ?_, ?_⟩
  · exact ⟨none, none, none, none, [], [], [], rfl, fun c o n1 _ _ e => b3 c o n1 e, P3.mono (by omega), b3 _ _ nSp hS2, .nil, fun d h => (by cases h), Nat.le_refl _, b3 _ _ nLp hL2, fun z h => (by cases h), Nat.le_refl _, fun h => absurd h (by decide)⟩
  · rintro i σ H4 hi ⟨t6, t7, t8, t9, sx, sd, zs, rfl, k1, k2, k3, k4, k5, k6, k7, k8, k9, k10⟩
    have hi3 : i < 3 := by omega
    have hp2 := P2.p
    obtain ⟨xp, hp2⟩ := hp2
    have tu := k1.tups hp2 hS2 hL2
    refine st_source (t7 := t7) (t8 := t8) (t9 := t9) (b := b) G cD hr rfl k2 (by have : i * 4 ≤ 12 := by omega
                                                                                  omega) hi3 (k1 _ _ npl nplS nplL hpl2) (hds2.mono tu) npl d0 d1 okd k3 k4 k5 k6 nSp nSL k7 k8 k9 nLp nLL nSLb nplS nplL ?_
    intro t7' t8' t9' sx' sd' zs' H5 j1 j2 j3 j4 j5 j6 j7 j8 j9 j10
    exact ⟨_, t7', t8', t9', sx', sd', zs', rfl, fun c o n1 n2 n3 e => j1 c o n1 n2 n3 (k1 c o n1 n2 n3 e), j2.mono (by omega), j3, j4, j5, j6, j7, j8, j9, fun _ => j10⟩
  rintro σ H4 ⟨t6, t7, t8, t9, sx, sd, zs, rfl, k1, k2, k3, k4, k5, k6, k7, k8, k9, k10⟩
  have l0 := k10 (by omega)
  have k2' : Pen H4 p L (n + 13) := k2.mono (by omega)
  have bH4 : But p H H4 := fun c o n1 e => k1 c o n1 (ne_of_none e hS) (ne_of_none e hLbH) (sHL c o e)
  have ls : sd.length ≤ 8 := by omega
  -- told
  refine l_cons (s_set 10 (e_lst (a_nil ⟨Nat.zero_le _, fun T hT => ?_⟩)) scStatement.nd)
  have nTp := k2'.newP hT
  have nTL := k2'.newL hT
  have sT := same_new (o := .lst []) hT
  have P5 := k2'.same sT
  have hT5 : (upd H4 T (.lst [])) T = some (.lst []) := upd_same
  have hS5 := sT _ _ k3
  have hL5 := sT _ _ k7
  have hsd5 := k4.mono (My.Same.tups sT)
  have nST : S ≠ T := ne_of_none k3 hT
  have nLT : Lb ≠ T := ne_of_none k7 hT
  have bH5 : But p H (upd H4 T (.lst [])) := bH4.trans (But.of sT)
  have hTH : H T = none := bH4.free nTp hT
  generalize (upd H4 T (.lst [])) = H5 at P5 hT5 hS5 hL5 hsd5 bH5
  refine l_cons (s_forR G.range (pg_name (i := 6) scStatement.nd rfl (.inl rfl)) (e_addI (e_int ?_)) PassesOwn.never)
  refine e_c cD hr (by decide) (a_cons (e_var 0 rfl (a_cons (e_int (a_nil ⟨p, L, n + 13, 3, rfl, P5, by omega, by decide, by decide, fun dt H6 b6 P6 hdt => ?_⟩)))))
  refine ⟨1, dt, rfl, rfl, dt + 1, by rw [show (1 : Int) + (dt : Int) = ((dt + 1 : Nat) : Int) by omega], by omega, fun i σ H7 => ∃ (t6 t11 t12 t13 : Option V) (tx : List V) (td : List PyData),
    σ = [some (.ref p), some (.ref pl), some (.int 3), some (.bl b), some (.ref S), some (.ref Lb), t6, t7, t8, t9, some (.ref T), t11, t12, t13, none, none] ∧ But2 p T H5 H7 ∧ Pen H7 p L (n + 14 + i * 100) ∧ H7 T = some (.lst tx) ∧ DTs H7 tx td ∧ (∀ d ∈ td, okTold d) ∧ td.length ≤ i, ?_, ?_, ?_⟩
  · exact ⟨_, none, none, none, [], [], rfl, fun c o n1 _ e => b6 c o n1 e, P6.mono (by omega), b6 _ _ nTp hT5, .nil, fun d h => (by cases h), Nat.le_refl _⟩
  · rintro i σ H7 hi ⟨t6, t11, t12, t13, tx, td, rfl, m1, m2, m3, m4, m5, m6⟩
    refine st_told (b := b) G cD cT hr rfl m2 (by have : i * 100 ≤ 200 := by omega
                                                  omega) (by omega) m3 m4 m5 m6 nTp nTL (m1 _ _ nLp nLT hL5) k8 l0 (by omega) nLp nLT ?_
    intro t11' t12' t13' tx' td' H8 j1 j2 j3 j4 j5 j6
    exact ⟨_, t11', t12', t13', tx', td', rfl, fun c o n1 n2 e => j1 c o n1 n2 (m1 c o n1 n2 e), j2.mono (by omega), j3, j4, j5, j6⟩
  rintro σ H7 ⟨t6', t11, t12, t13, tx, td, rfl, m1, m2, m3, m4, m5, m6⟩
  have m2' : Pen H7 p L (n + 314) := m2.mono (by omega)
  obtain ⟨xp5, hp5⟩ := P5.p
  have tu7 := m1.tups hp5 hT5
  have hS7 := m1 _ _ nSp nST hS5
  have hL7 := m1 _ _ nLp nLT hL5
  have hsd7 := hsd5.mono tu7
  have bH7 : But p H H7 := fun c o n1 e => m1 c o n1 (ne_of_none e hTH) (bH5 c o n1 e)
  -- conditions
  refine l_cons (s_set 14 (e_lst (a_nil ⟨Nat.zero_le _, fun C hC => ?_⟩)) scStatement.nd)
  have nCp := m2'.newP hC
  have nCL := m2'.newL hC
  have sC := same_new (o := .lst []) hC
  have P8 := m2'.same sC
  have hC8 : (upd H7 C (.lst [])) C = some (.lst []) := upd_same
  have hS8 := sC _ _ hS7
  have hL8 := sC _ _ hL7
  have hT8 := sC _ _ m3
  have hsd8 := hsd7.mono (My.Same.tups sC)
  have htd8 := m4.mono (My.Same.tups sC)
  have nSC : S ≠ C := ne_of_none hS7 hC
  have nLC : Lb ≠ C := ne_of_none hL7 hC
  have nTC : T ≠ C := ne_of_none m3 hC
  have bH8 : But p H (upd H7 C (.lst [])) := bH7.trans (But.of sC)
  have hCH : H C = none := bH7.free nCp hC
  generalize (upd H7 C (.lst [])) = H8 at P8 hC8 hS8 hL8 hT8 hsd8 htd8 bH8
  refine l_cons (s_forR G.range (pg_name (i := 6) scStatement.nd rfl (.inl rfl)) ?_ PassesOwn.never)
  refine e_c cD hr (by decide) (a_cons (e_var 0 rfl (a_cons (e_int (a_nil ⟨p, L, n + 314, 3, rfl, P8, by omega, by decide, by decide, fun dc H9 b9 P9 hdc => ?_⟩)))))
  refine ⟨dc, rfl, by omega, fun i σ H10 => ∃ (t6 t12 : Option V) (cx : List V) (cd : List PyData),
    σ = [some (.ref p), some (.ref pl), some (.int 3), some (.bl b), some (.ref S), some (.ref Lb), t6, t7, t8, t9, some (.ref T), t11, t12, t13, some (.ref C), none] ∧ But2 p C H8 H10 ∧ Pen H10 p L (n + 315 + i * 110) ∧ H10 C = some (.lst cx) ∧ DTs H10 cx cd ∧ (∀ d ∈ cd, okCond d) ∧ cd.length ≤ i, ?_, ?_, ?_⟩
  · exact ⟨_, _, [], [], rfl, fun c o n1 _ e => b9 c o n1 e, P9.mono (by omega), b9 _ _ nCp hC8, .nil, fun d h => (by cases h), Nat.le_refl _⟩
  · rintro i σ H10 hi ⟨t6, t12, cx, cd, rfl, r1, r2, r3, r4, r5, r6⟩
    refine st_cond (b := b) G cD cC cW hr rfl r2 (by have : i * 110 ≤ 220 := by omega
                                                     omega) (by omega) r3 r4 r5 r6 nCp nCL (r1 _ _ nLp nLC hL8) k8 l0 (by omega) nLp ?_
    intro t12' cx' cd' H11 j1 j2 j3 j4 j5 j6
    exact ⟨_, t12', cx', cd', rfl, fun c o n1 n2 e => j1 c o n1 n2 (r1 c o n1 n2 e), j2.mono (by omega), j3, j4, j5, j6⟩
  rintro σ H10 ⟨t6'', t12', cx, cd, rfl, r1, r2, r3, r4, r5, r6⟩
  have r2' : Pen H10 p L (n + 700) := r2.mono (by omega)
  obtain ⟨xp8, hp8⟩ := P8.p
  have tu10 := r1.tups hp8 hC8
  have hS10 := r1 _ _ nSp nSC hS8
  have hT10 := r1 _ _ nTp nTC hT8
  have hsd10 := hsd8.mono tu10
  have htd10 := htd8.mono tu10
  have bH10 : But p H H10 := fun c o n1 e => r1 c o n1 (ne_of_none e hCH) (bH8 c o n1 e)
  -- the end
  refine l_cons (WS.cut (P := fun σ H11 => ∃ e : Bool, σ = [some (.ref p), some (.ref pl), some (.int 3), some (.bl b), some (.ref S), some (.ref Lb), t6'', t7, t8, t9, some (.ref T), t11, t12', t13, some (.ref C), some (.bl e)] ∧ But p H10 H11 ∧ Pen H11 p L (n + 701)) (s_set 15 (e_and (e_not (e_var 3 rfl ⟨b, rfl, !b, rfl, fun _ => e_one (e_cmp op_eq ?_), fun _ => ⟨false, rfl, But.refl _ _, r2'.mono (by omega)⟩⟩))) scStatement.nd) ?_)
  · exact e_c cD hr (by decide) (a_cons (e_var 0 rfl (a_cons (e_int (a_nil ⟨p, L, n + 700, 3, rfl, r2', by omega, by decide, by decide, fun d11 H11 b11 P11 hd11 => e_int ⟨rfl, _, rfl, b11, P11⟩⟩)))))
  rintro σ H11 ⟨e, rfl, b11, P11⟩
  have hS11 := b11 _ _ nSp hS10
  have hT11 := b11 _ _ nTp hT10
  have hC11 := b11 _ _ nCp r3
  have tu11 := Pen.tups r2' b11
  refine l_one (s_ret (e_tup (a_cons (e_var 15 rfl (a_cons (e_tupL G.tuple (e_var 10 rfl ⟨T, tx, rfl, .inl (.inl hT11), fun a1 h1 => ?_⟩)))))))
  have s1 := same_new (o := .tup tx) h1
  refine a_cons (e_tupL G.tuple (e_var 4 rfl ⟨S, sx, rfl, .inl (.inl (s1 _ _ hS11)), fun a2 h2 => ?_⟩))
  have s2 := same_new (o := .tup sx) h2
  refine a_cons (e_tupL G.tuple (e_var 14 rfl ⟨C, cx, rfl, .inl (.inl (s2 _ _ (s1 _ _ hC11))), fun a3 h3 => ?_⟩))
  have s3 := same_new (o := .tup cx) h3
  refine a_nil ⟨by show 4 ≤ sizeLine; decide, fun a4 h4 => ?_⟩
  have s4 := same_new (o := .tup [V.bl e, .ref a1, .ref a2, .ref a3]) h4
  have s14 := s1.trans (s2.trans (s3.trans s4))
  have tt := tu11.trans (My.Same.tups s14)
  refine q _ (.tuple [.bool e, .tuple td, .tuple sd, .tuple cd]) _ (bH10.trans (b11.trans (But.of s14))) ((P11.same s14).mono (by omega)) (.tup upd_same (.cons (.bl e) (.cons (.tup (s4 _ _ (s3 _ _ (s2 _ _ upd_same))) (htd10.mono tt)) (.cons (.tup (s4 _ _ (s3 _ _ upd_same)) (hsd10.mono tt)) (.cons (.tup (s4 _ _ upd_same) (r4.mono tt)) .nil))))) ⟨e, td, sd, cd, rfl, ⟨by omega, m5⟩, ⟨by omega, k5⟩, ⟨by omega, r5⟩⟩
end
end K04

namespace My
open PySem PySem.Spec PyProof.Rows L2
section
variable {X : Cx} {o : Expr} {σ : L2.St} {H : Hp} {Q : VK} {pos apos : Pos}
/-- o.isascii(), o.isalpha(), o.islower() of a text -/
theorem e_isascii (h : WE X o σ H fun x H1 => ∃ z, x = .str z ∧ Q (.bl (Txt.isascii z)) H1)
    (hbase : attributeBase o "isascii" X.env (eval o X.env) = eval o X.env := by rfl) (hline : (apos.endLine == pos.line) = true := by rfl) : WE X (.Call (.Attribute o "isascii" apos) [] [] pos) σ H Q :=
  toE (pe_bm0 PySem.F.plainAttrs_str PySem.F.slot_str_isascii PySem.F.type_str_isascii mt_isascii pE hbase hline) (WE.mono h fun x H1 ⟨z, e, q⟩ => by
    subst e
    exact ⟨rfl, z, rfl, rfl, trivial, q⟩)
theorem e_isalpha (h : WE X o σ H fun x H1 => ∃ z, x = .str z ∧ Q (.bl (Txt.isalpha z)) H1)
    (hbase : attributeBase o "isalpha" X.env (eval o X.env) = eval o X.env := by rfl) (hline : (apos.endLine == pos.line) = true := by rfl) : WE X (.Call (.Attribute o "isalpha" apos) [] [] pos) σ H Q :=
  toE (pe_bm0 PySem.F.plainAttrs_str PySem.F.slot_str_isalpha PySem.F.type_str_isalpha mt_isalpha pE hbase hline) (WE.mono h fun x H1 ⟨z, e, q⟩ => by
    subst e
    exact ⟨rfl, z, rfl, rfl, trivial, q⟩)
theorem e_islower (h : WE X o σ H fun x H1 => ∃ z, x = .str z ∧ Q (.bl (Txt.islower z)) H1)
    (hbase : attributeBase o "islower" X.env (eval o X.env) = eval o X.env := by rfl) (hline : (apos.endLine == pos.line) = true := by rfl) : WE X (.Call (.Attribute o "islower" apos) [] [] pos) σ H Q :=
  toE (pe_bm0 PySem.F.plainAttrs_str PySem.F.slot_str_islower PySem.F.type_str_islower mt_islower pE hbase hline) (WE.mono h fun x H1 ⟨z, e, q⟩ => by
    subst e
    exact ⟨rfl, z, rfl, rfl, trivial, q⟩)
end
def lowC (c : Nat) : Bool := decide (c ∈ ("abcdefghijklmnopqrstuvwxyz" : Str).cps.toList)
theorem lowC_1 : ∀ c < 128, (Unicode.isAlpha c && !(Unicode.isUpper c || Unicode.isTitle c)) = lowC c := by decide +kernel
theorem lowC_2 : ∀ c < 128, lowC c = true → Unicode.isLower c = true := by decide +kernel
theorem lowC_3 (c : Nat) (h : lowC c = true) : c < 128 := by
  have h' : c ∈ ("abcdefghijklmnopqrstuvwxyz" : Str).cps.toList := of_decide_eq_true h
  have : ∀ x ∈ ("abcdefghijklmnopqrstuvwxyz" : Str).cps.toList, x < 128 := by decide +kernel
  exact this c h'
/-- lowercase letters alone, and one at least -/
theorem low_eq (z : Str) : (Txt.isascii z && (Txt.isalpha z && Txt.islower z)) = (decide (1 ≤ z.length) && z.cps.toList.all lowC) := by
  have e1 : Txt.isascii z = z.cps.toList.all fun c => decide (c < 128) := by rw [Array.all_toList]; rfl
  have e2 : Txt.isalpha z = (decide (1 ≤ z.length) && z.cps.toList.all Unicode.isAlpha) := by rw [Array.all_toList]; rfl
  have e3 : Txt.islower z = (z.cps.toList.any Unicode.isLower && !z.cps.toList.any fun c => Unicode.isUpper c || Unicode.isTitle c) := by rw [Array.any_toList, Array.any_toList]; rfl
  have el : z.length = z.cps.toList.length := rfl
  rw [e1, e2, e3, el]
  generalize z.cps.toList = l
  apply Bool.eq_iff_iff.mpr
  simp only [Bool.and_eq_true, decide_eq_true_eq, List.all_eq_true, Bool.not_eq_true', List.any_eq_true]
  constructor
  · rintro ⟨h1, ⟨h2, h3⟩, _, h5⟩
    refine ⟨h2, fun c hc => ?_⟩
    rw [← lowC_1 c (h1 c hc), h3 c hc, Bool.true_and]
    have := List.any_eq_false.mp h5 c hc
    simpa using this
  · rintro ⟨h1, h2⟩
    have k : ∀ c ∈ l, (Unicode.isAlpha c && !(Unicode.isUpper c || Unicode.isTitle c)) = true := fun c hc => by rw [lowC_1 c (lowC_3 c (h2 c hc))]; exact h2 c hc
    refine ⟨fun c hc => lowC_3 c (h2 c hc), ⟨h1, fun c hc => ?_⟩, ?_, ?_⟩
    · have := k c hc; rw [Bool.and_eq_true] at this; exact this.1
    · cases l with
      | nil => simp at h1
      | cons c r => exact ⟨c, List.mem_cons_self .., lowC_2 c (lowC_3 c (h2 c (List.mem_cons_self ..))) (h2 c (List.mem_cons_self ..))⟩
    · apply List.any_eq_false.mpr
      intro c hc
      have := k c hc; rw [Bool.and_eq_true] at this; simpa using this.2
end My

namespace My
open PySem PySem.Spec PyProof.Rows L2
/-! ### a dict of the top with text keys -/
theorem keyZ_str {e : DictEntry} {x : Str} (h : keyZ e = some x) : ∃ t, e.key = .str x t := by
  unfold keyZ at h
  split at h
  · rename_i y t q
    cases h
    exact ⟨t, q⟩
  · cases h
theorem find_keys (z : Str) : ∀ (l : List DictEntry) (zs : List Str), l.map keyZ = zs.map some → (l.find? (·.key.isStr z)).isSome = decide (z ∈ zs) ∧ l.any (·.refKey) = false
  | [], [], _ => ⟨rfl, rfl⟩
  | [], _ :: _, h => by cases h
  | _ :: _, [], h => by cases h
  | e :: l, x :: zs, h => by
    have h' : keyZ e :: l.map keyZ = some x :: zs.map some := h
    injection h' with h1 h2
    obtain ⟨i1, i2⟩ := find_keys z l zs h2
    obtain ⟨t, q⟩ := keyZ_str h1
    constructor
    · by_cases hx : x = z
      · have b : e.key.isStr z = true := by rw [q]; exact beq_iff_eq.mpr hx
        rw [List.find?_cons_of_pos (p := fun d : DictEntry => d.key.isStr z) b]
        exact (decide_eq_true (by rw [hx]; exact List.mem_cons_self)).symm
      · have b : ¬ e.key.isStr z = true := by rw [q]; exact fun c => hx (beq_iff_eq.mp c)
        rw [List.find?_cons_of_neg (p := fun d : DictEntry => d.key.isStr z) b, i1]
        apply Bool.eq_iff_iff.mpr
        rw [decide_eq_true_eq, decide_eq_true_eq, List.mem_cons]
        exact ⟨.inr, fun c => c.elim (fun c => absurd c.symm hx) id⟩
    · rw [List.any_cons, i2, Bool.or_false]
      unfold DictEntry.refKey
      rw [q]
theorem KSt.ns {w : World} {K : PySem.W.Frag} {a : Addr} {zs : List Str} (h : KSt w K a zs) (z : Str) : ∃ es n, KDict K w a es n ∧ ∃ r, PySem.W.nsIn K a z = some r ∧ r.isSome = decide (z ∈ zs) := by
  obtain ⟨es, n, D, hk⟩ := h.ex
  obtain ⟨f1, f2⟩ := find_keys z es.toList zs hk
  refine ⟨es, n, D, ?_⟩
  unfold PySem.W.nsIn
  rw [D.at_]
  dsimp only
  cases q : es.toList.find? (·.key.isStr z) with
  | none =>
    rw [q] at f1
    exact ⟨none, by rw [f2]; rfl, f1⟩
  | some e =>
    rw [q] at f1
    exact ⟨some e.val, rfl, f1⟩
section
variable {X : Cx} {ρ : Rho} {a a2 b c e o : Expr} {es rest : List Expr} {d d1 d2 : PyData} {ds ds2 : List PyData} {pos apos p p2 p3 pc pt : Pos} {x y : Str} {k m : Bool}
/-- x not in R, x in R: a dict of the top -/
theorem d_notInK {z : Str} {zs : List Str} (hR : ∃ aR, X.mg x = some (.ref aR) ∧ KSt X.w X.K aR zs) (h : ED X ρ a (.str z)) (hg : Gl X x := by rfl) (hd : (x == ("__debug__" : Str)) = false := by decide) : ED X ρ (.Compare a [.NotIn] [.Name x p] pos) (.bool (!decide (z ∈ zs))) := fun S σ H Q sl q => by
  obtain ⟨aR, hm, hK⟩ := hR
  obtain ⟨es, n, D, r, hr, hs⟩ := hK.ns z
  refine e_cmp (op_notIn_kd D) (h S σ H _ sl fun v H1 s1 g1 => ?_) (by first | exact nomark _ | rfl)
  cases g1
  exact e_glob (v := .ref aR) hm rfl ⟨z, r, rfl, rfl, hr, by rw [hs]; exact q _ H1 s1 (.bl _)⟩ hg hd
theorem td_inK {z : Str} {zs : List Str} (hR : ∃ aR, X.mg x = some (.ref aR) ∧ KSt X.w X.K aR zs) (h : ED X ρ a (.str z)) (hg : Gl X x := by rfl) (hd : (x == ("__debug__" : Str)) = false := by decide) : TD X ρ (.Compare a [.In] [.Name x p] pos) (decide (z ∈ zs)) := fun S σ H Q sl q => by
  obtain ⟨aR, hm, hK⟩ := hR
  obtain ⟨es, n, D, r, hr, hs⟩ := hK.ns z
  refine t_cmp (op_in_kd D) (h S σ H _ sl fun v H1 s1 g1 => ?_) (by first | exact nomark _ | rfl)
  cases g1
  exact e_glob (v := .ref aR) hm rfl ⟨z, r, rfl, rfl, hr, _, rfl, by rw [hs]; exact q H1 s1⟩ hg hd
theorem td_notInK {z : Str} {zs : List Str} (hR : ∃ aR, X.mg x = some (.ref aR) ∧ KSt X.w X.K aR zs) (h : ED X ρ a (.str z)) (hg : Gl X x := by rfl) (hd : (x == ("__debug__" : Str)) = false := by decide) : TD X ρ (.Compare a [.NotIn] [.Name x p] pos) (!decide (z ∈ zs)) := fun S σ H Q sl q => by
  obtain ⟨aR, hm, hK⟩ := hR
  obtain ⟨es, n, D, r, hr, hs⟩ := hK.ns z
  refine t_cmp (op_notIn_kd D) (h S σ H _ sl fun v H1 s1 g1 => ?_) (by first | exact nomark _ | rfl)
  cases g1
  exact e_glob (v := .ref aR) hm rfl ⟨z, r, rfl, rfl, hr, _, rfl, by rw [hs]; exact q H1 s1⟩ hg hd
/-! texts: isascii, isalpha, islower; <= -/
theorem d_isascii {z : Str} (h : ED X ρ o (.str z)) (hbase : attributeBase o "isascii" X.env (eval o X.env) = eval o X.env := by rfl) (hline : (apos.endLine == pos.line) = true := by rfl) : ED X ρ (.Call (.Attribute o "isascii" apos) [] [] pos) (.bool (Txt.isascii z)) := fun S σ H Q sl q =>
  e_isascii (h S σ H _ sl fun v H1 s1 g1 => by cases g1; exact ⟨z, rfl, q _ H1 s1 (.bl _)⟩) hbase hline
theorem d_isalpha {z : Str} (h : ED X ρ o (.str z)) (hbase : attributeBase o "isalpha" X.env (eval o X.env) = eval o X.env := by rfl) (hline : (apos.endLine == pos.line) = true := by rfl) : ED X ρ (.Call (.Attribute o "isalpha" apos) [] [] pos) (.bool (Txt.isalpha z)) := fun S σ H Q sl q =>
  e_isalpha (h S σ H _ sl fun v H1 s1 g1 => by cases g1; exact ⟨z, rfl, q _ H1 s1 (.bl _)⟩) hbase hline
theorem d_islower {z : Str} (h : ED X ρ o (.str z)) (hbase : attributeBase o "islower" X.env (eval o X.env) = eval o X.env := by rfl) (hline : (apos.endLine == pos.line) = true := by rfl) : ED X ρ (.Call (.Attribute o "islower" apos) [] [] pos) (.bool (Txt.islower z)) := fun S σ H Q sl q =>
  e_islower (h S σ H _ sl fun v H1 s1 g1 => by cases g1; exact ⟨z, rfl, q _ H1 s1 (.bl _)⟩) hbase hline
theorem o_leS : OpR X (compareOp .LtE) (rP fun d e b => ∃ y z : Str, d = .str y ∧ e = .str z ∧ b = !decide (lt z y)) := fun pins s σ H x y v u Q I rx ry ⟨S, d, e, b, g1, g2, ⟨i, j, e1, e2, e3⟩, q⟩ => by
  subst e1 e2 e3
  cases g1; cases g2
  exact op_le_str pins s σ H _ _ v u Q I rx ry ⟨i, j, rfl, rfl, q⟩
/-- not isinstance(x, str) or len(x) > M -/
theorem wd_strM {M : Str} (G : X.mg "isinstance" = none ∧ X.mg "str" = none ∧ X.mg "len" = none) (hM : ∃ t, X.mg M = some (.int 8 t)) (h : ED X ρ a d) (hB : ED X ρ a2 d) (ok : okS d = true) (hg : Gl X "isinstance" := by rfl) (hgT : Gl X "str" := by rfl) (hgl : Gl X "len" := by rfl) (hgM : Gl X M := by rfl) (hdM : (M == ("__debug__" : Str)) = false := by decide) {q1 q2 q3 q4 q5 q6 q7 q8 : Pos}
    (he : starEach [a, .Name "str" q2] X.env = (false, eval a X.env) :: starEach [.Name "str" q2] X.env := by rfl) (he2 : starEach [a2] X.env = (false, eval a2 X.env) :: starEach [] X.env := by rfl)
    (hi1 : ∀ whole, isTrue (.Call (.Name "isinstance" q1) [a, .Name "str" q2] [] q3) X.env whole = (do let v ← whole; standAt q3; holding [v] (truthy v)) := by intro _; rfl) :
    WD X ρ (.BoolOp .Or [.UnaryOp .Not (.Call (.Name "isinstance" q1) [a, .Name "str" q2] [] q3) q4, .Compare (.Call (.Name "len" q5) [a2] [] q6) [.Gt] [.Name M q7] q8] pos) (!(isStr d && decide ((My.strOf d).length ≤ 8))) := by
  have e : (!(isStr d && decide ((My.strOf d).length ≤ 8))) = (!isStr d || decide ((8 : Int) < ((My.strOf d).length : Int))) := by
    have e1 : decide ((8 : Int) < ((My.strOf d).length : Int)) = !decide ((My.strOf d).length ≤ 8) := by
      apply Bool.eq_iff_iff.mpr
      rw [decide_eq_true_eq, Bool.not_eq_true', decide_eq_false_iff_not]
      omega
    rw [e1]
    cases isStr d <;> rfl
  rw [e]
  refine wd_or (td_not (td_val (d_isStr G.1 G.2.1 h hg hgT he) hi1)) fun ht => wd_or1 ?_
  have hs := nb' ht
  have hz : (My.strOf d).length ≤ sizeLine := str_line (by rw [← isStr_eq hs]; exact ok)
  exact td_cmp o_gt (d_lenS G.2.2 hz (hB.cast (isStr_eq hs)) hgl he2) (d_gint hM hgM hdM) ⟨_, _, rfl, rfl, rfl⟩ (by first | exact nomark _ | rfl)
end
/-! ### ascending, from a text on -/
def ascF : Str → List Str → Bool
  | _, [] => true
  | x, y :: r => !(!decide (lt x y)) && ascF y r
theorem ascF_cons (x : Str) : ∀ zs : List Str, ascF x zs = ascS (x :: zs)
  | [] => rfl
  | y :: r => by
    show (!(!decide (lt x y)) && ascF y r) = (decide (lt x y) && ascS (y :: r))
    rw [Bool.not_not, ascF_cons y r]
theorem empty_lt {z : Str} (h : 1 ≤ z.length) : lt Str.empty z := by
  have hl : 1 ≤ z.cps.toList.length := h
  show ([] : List Nat) < z.cps.toList
  cases e : z.cps.toList with
  | nil => rw [e] at hl; simp at hl
  | cons c r => exact List.nil_lt_cons c r
theorem ascF_empty : ∀ {zs : List Str}, (∀ z ∈ zs, 1 ≤ z.length) → ascF Str.empty zs = ascS zs
  | [], _ => rfl
  | z :: r, h => by
    show (!(!decide (lt Str.empty z)) && ascF z r) = _
    rw [decide_eq_true (empty_lt (h z List.mem_cons_self)), ascF_cons]
    rfl
theorem dic_mk {w : World} {K : PySem.W.Frag} {n : Str} {zs : List Str} {a : Addr} {oc : Value} {od : Option Addr} {es : Array DictEntry} {m : Nat} {osl : Array (Option Value)} (e : PySem.W.nsIn K mainGlobals n = some (some (.ref a))) (l : K.lookup a = some ⟨oc, od, .dict es m, osl⟩)
    (h1 : oc = .type "dict") (h2 : od = none) (h3 : osl = #[]) (hk : PySem.W.KeysLit w.params es.toList) (hl : (a == sysModules) = false) (hz : es.toList.map keyZ = zs.map some) : ∃ a, PySem.W.nsIn K mainGlobals n = some (some (.ref a)) ∧ KSt w K a zs := by
  subst h1 h2 h3
  exact ⟨a, e, ⟨⟨es, m, ⟨l, hk, hl⟩, hz⟩⟩⟩
/-! ### for x in a tuple: if not ..: return False; return True -/
section
variable {X : Cx} {ρ : Rho} {iter c : Expr} {ds : List PyData} {x : Str} {pos pt q1 q2 q3 q4 q5 : Pos} {j1 j2 : Nat}
theorem forD_all {j : Nat} {body : List Stmt} (g : PyData → Bool) (ρ : Rho) : ∀ (ds : List PyData) (ρ1 : Rho), (∀ d, ρ1.set j (some d) = ρ.set j (some d)) →
    (∀ d ∈ ds, g d = true → LD X (ρ.set j (some d)) body (.nx (ρ.set j (some d)))) → (∀ d ∈ ds, g d = false → LD X (ρ.set j (some d)) body (.ret (.bool false))) →
    (ds.all g = true → ∃ ρ2, ForD X j body ds ρ1 (.nx ρ2)) ∧ (ds.all g = false → ForD X j body ds ρ1 (.ret (.bool false)))
  | [], ρ1, _, _, _ => ⟨fun _ => ⟨ρ1, .done⟩, fun e => by cases e⟩
  | d :: ds, ρ1, h0, h1, h2 => by
    obtain ⟨i1, i2⟩ := forD_all g ρ ds (ρ.set j (some d)) (fun e => List.set_set ..) (fun e he => h1 e (List.mem_cons_of_mem _ he)) (fun e he => h2 e (List.mem_cons_of_mem _ he))
    rw [List.all_cons]
    cases hd : g d with
    | true =>
      rw [Bool.true_and]
      have hb := h1 d List.mem_cons_self hd
      rw [← h0 d] at hb
      refine ⟨fun e => ?_, fun e => ?_⟩
      · obtain ⟨ρ2, hf⟩ := i1 e
        rw [← h0 d] at hf
        exact ⟨ρ2, .next hb hf⟩
      · have hf := i2 e
        rw [← h0 d] at hf
        exact .next hb hf
    | false =>
      rw [Bool.false_and]
      have hb := h2 d List.mem_cons_self hd
      rw [← h0 d] at hb
      exact ⟨fun e => (by cases e), fun _ => .ret hb⟩
theorem ld_forAll (j : Nat) (g : PyData → Bool) (h : ED X ρ iter (.tuple ds)) (hb : ∀ d ∈ ds, TD X (ρ.set j (some d)) c (!g d)) (hg : PG X (.Name x pt) (gName j)) (hp : PassesOwn (model X.prog X.w) X.A X.env X.xe) (hc : X.calm = true := by rfl)
    (hs : ∀ x, foldedSetIterable iter X.env x = pure x := by intro _; rfl) :
    LD X ρ [.For (.Name x pt) iter [.If c [.Return (some (.Constant (.bool false) j1 q1)) q2] [] q3] [] pos, .Return (some (.Constant (.bool true) j2 q4)) q5] (.ret (.bool (ds.all g))) := by
  have step := forD_all (X := X) (j := j) (body := [.If c [.Return (some (.Constant (.bool false) j1 q1)) q2] [] q3]) g ρ ds ρ (fun _ => rfl) (fun d hd e => ?_) (fun d hd e => ?_)
  · cases hall : ds.all g with
    | false => exact ld_end (sd_forT j h (step.2 hall) hg hp hc hs)
    | true =>
      obtain ⟨ρ2, hf⟩ := step.1 hall
      exact ld_cons (sd_forT j h hf hg hp hc hs) (ld_end (sd_ret (d_bl true)))
  · have hb' := hb d hd
    rw [e] at hb'
    exact ld_cons (sd_if (k := false) hb' (fun e => by cases e) fun _ => ld_nil) ld_nil
  · have hb' := hb d hd
    rw [e] at hb'
    exact ld_end (sd_if (k := true) hb' (fun _ => ld_end (sd_ret (d_bl false))) fun e => by cases e)
end
end My

namespace K04
open PySem PySem.Spec PyProof.Rows L2 My
abbrev sTupOf : Stmt := top 1
abbrev sDiff : Stmt := top 2
abbrev sName : Stmt := top 7
abbrev sValue : Stmt := top 8
abbrev sValues : Stmt := top 9
abbrev sAsc : Stmt := top 10
abbrev sNN : Stmt := top 11
abbrev sColumn : Stmt := top 22
abbrev sCall : Stmt := top 23
abbrev sTold : Stmt := top 24
abbrev sSource : Stmt := top 25
abbrev sCond : Stmt := top 26
abbrev sStatementP : Stmt := top 19
abbrev sHasV : Stmt := top 27
abbrev sView : Stmt := top 20
abbrev sPath : Stmt := top 21
section
variable {P : Program} {w : World} {K : PySem.W.Frag} {mg : Str → Option Value} {base : Heap}
theorem scTupOf : FnScope ["thing", "least", "most", "is_part", "part"] ["thing", "least", "most", "is_part"] (defScope sTupOf) := ⟨rfl, rfl, rfl, by decide +kernel, rfl, by decide +kernel, by decide +kernel⟩
theorem ok_tupOf {k : Nat} {f : Addr} {fd : FuncData} (F : Fun K "is_tuple_of" "is_tuple_of" sTupOf f fd) (G : Bf w K mg) : FnOk P w K mg base CX0 (k + 1) f fd ["thing", "least", "most", "is_part"] (spTO P w K mg base k) := by
  refine Fun.okW F scTupOf (fun vs H Q E h => by obtain ⟨a, b, c, d, e, g, i, rfl, _⟩ := h; rfl) (fun cdv B out s H vs Q E hr h => ?_)
  obtain ⟨S, v, d, lo, hi, g, φ, rfl, ⟨gd, ps, Fg, kg, bg⟩, hhi, hd, hok, q⟩ := h
  -- not a tuple
  refine l_cons (WS.cut (P := fun σ H2 => σ = [some v, some (.int lo), some (.int hi), some (.ref g), none] ∧ H2 = H ∧ ∃ ds, d = .tuple ds ∧ lo ≤ ds.length ∧ (ds.length : Int) ≤ hi) (s_if (t_w (w_or (t_not (t_val (e_isi G.isi G.tuple PyProof.Rows.boot_tuple (e_var 0 rfl ⟨tyD d, isTup d, hd.ty, kit_tup d, isTup d, rfl, fun e => ?_, fun e => ?_⟩)))))) ) ?_)
  · have nt : isTup d = false := by simpa using e
    refine ⟨fun _ => ?_, fun e => Bool.noConfusion e⟩
    have e2 : tupD lo hi φ d = false := by cases d <;> first | rfl | cases nt
    exact l_one (s_ret (e_bl (by have := q H (Same.refl _); rw [e2] at this; exact this)))
  · have nt : isTup d = true := by simpa using e
    cases hd with
    | tup h hs =>
      rename_i a xs ds
      have lx := hs.length
      refine w_or1 (t_not (t_btw (e_var 1 rfl (e_len G.len (e_var 0 rfl ⟨a, xs, rfl, .inr (.inl (.inl h)), lo, _, rfl, rfl, fun h1 => e_var 2 rfl ⟨hi, rfl, ?_⟩, fun h1 => ?_⟩)))))
      · by_cases h2 : (xs.length : Int) ≤ hi
        · rw [decide_eq_true h2]
          exact ⟨fun e => Bool.noConfusion e, fun _ => l_nil ⟨rfl, rfl, ds, rfl, by omega, by omega⟩⟩
        · rw [decide_eq_false h2]
          refine ⟨fun _ => ?_, fun e => Bool.noConfusion e⟩
          have e2 : tupD lo hi φ (.tuple ds) = false := by
            show (_ && decide ((ds.length : Int) ≤ hi) && _) = false
            rw [← lx, decide_eq_false h2]; simp
          exact l_one (s_ret (e_bl (by have := q H (Same.refl _); rw [e2] at this; exact this)))
      · refine ⟨fun _ => ?_, fun e => Bool.noConfusion e⟩
        have e2 : tupD lo hi φ (.tuple ds) = false := by
          show (decide (lo ≤ (ds.length : Int)) && _ && _) = false
          rw [← lx, decide_eq_false h1]; simp
        exact l_one (s_ret (e_bl (by have := q H (Same.refl _); rw [e2] at this; exact this)))
    | _ => cases nt
  rintro σ H2 ⟨rfl, rfl, ds, rfl, h1, h2⟩
  cases hd with
  | tup h hs =>
    rename_i a xs
    have ok2 := okS_t hok
    have e2 : tupD lo hi φ (.tuple ds) = ds.all φ := by
      show (decide (lo ≤ (ds.length : Int)) && decide ((ds.length : Int) ≤ hi) && ds.all φ) = _
      rw [decide_eq_true h1, decide_eq_true h2]; rfl
    rw [e2] at q
    refine l_cons (s_for (pi_tup pE) (pg_name (i := 4) scTupOf.nd rfl (.inl rfl)) (e_var 0 rfl ⟨a, rfl, ⟨xs, .inl (.inl h)⟩, for_tup (xs := xs) (fun i σ' H' => Same H2 H' ∧ (∃ u, σ' = [some (.ref a), some (.int lo), some (.int hi), some (.ref g), u]) ∧ (ds.take i).all φ = true) ⟨Same.refl _, ⟨none, rfl⟩, rfl⟩ (fun i σ' H' _ p => .inl (.inl (p.1 _ _ h))) ?_ ?_⟩) PassesOwn.never)
    · rintro i y σ' H' hy ⟨s2, ⟨u, rfl⟩, al⟩
      obtain ⟨d, hd, gy⟩ := hs.get hy
      have gy' := gy.same s2
      have lt : i < ds.length := (List.getElem?_eq_some_iff.mp hd).1
      have e3 : ds[i] = d := by rw [List.getElem?_eq_getElem lt] at hd; exact Option.some.inj hd
      show WL _ _ _ [some (.ref a), some (.int lo), some (.int hi), some (.ref g), some y] H'
      refine l_one (s_if (t_not (t_val (toE (pe_callL (i := 3) Fg hr rfl ?hv kg bg .nil pass0 pA) ⟨rfl, a_cons (e_var 4 rfl (a_nil ⟨S, y, d, rfl, gy', ok2 d (List.mem_of_getElem? hd), fun H4 s4 => ⟨φ d, rfl, fun e => ?_, fun e => ?_⟩⟩))⟩))))
      case hv => first | exact Or.inl rfl | exact Or.inr (Or.inl rfl) | exact Or.inr (Or.inr rfl)
      · have nd : φ d = false := nb e
        have al0 : ds.all φ = false := by
          cases z : ds.all φ with
          | false => rfl
          | true => rw [List.all_eq_true.mp z d (List.mem_of_getElem? hd)] at nd; cases nd
        rw [al0] at q
        exact l_one (s_ret (e_bl (q H4 (s2.trans s4))))
      · have nd : φ d = true := nb' e
        refine l_nil ⟨s2.trans s4, ⟨some y, rfl⟩, ?_⟩
        rw [List.take_succ_eq_append_getElem lt, List.all_append, al, e3]
        show (true && (φ d && true)) = true
        rw [nd]; rfl
    · rintro σ' H' ⟨s2, ⟨u, rfl⟩, al⟩
      rw [hs.length, List.take_length] at al
      rw [al] at q
      exact l_one (s_ret (e_bl (q H' s2)))
theorem scDiff : FnScope ["things"] ["things"] (defScope sDiff) := ⟨rfl, rfl, rfl, by decide +kernel, rfl, by decide +kernel, by decide +kernel⟩
theorem ok_diff {f : Addr} {fd : FuncData} (F : Fun K "are_different" "are_different" sDiff f fd) (G : Bf w K mg) : FnOk P w K mg base CX0 1 f fd ["things"] (spDiff K) := by
  refine Fun.okW F scDiff (fun vs H Q E h => by obtain ⟨a, b, rfl, _⟩ := h; rfl) (fun cdv B out s H vs Q E hr h => ?_)
  obtain ⟨a, xs, rfl, hs, hl, q⟩ := h
  refine l_one (s_ret (e_cmp op_eq (e_lenSet G.len G.set (e_var 0 rfl ⟨a, xs, rfl, hs, hl, e_len G.len (e_var 0 rfl ⟨a, _, rfl, hs, rfl, ?_⟩)⟩))))
  have e := cnt_nodup xs xs.length (Nat.le_refl _)
  rw [List.take_length] at e
  have e2 : decide (V.int (cnt xs xs.length : Nat) = V.int ((xs.map V.str).length : Nat)) = decide xs.Nodup := by
    rw [List.length_map]
    apply Bool.eq_iff_iff.mpr
    rw [decide_eq_true_eq, decide_eq_true_eq, ← e]
    constructor
    · intro h; injection h with h; omega
    · intro h; rw [h]
  rw [e2]
  exact q
theorem scValue : FnScope ["thing"] ["thing"] (defScope sValue) := ⟨rfl, rfl, rfl, by decide +kernel, rfl, by decide +kernel, by decide +kernel⟩
theorem ok_value {f : Addr} {fd : FuncData} (F : Fun K "is_value" "is_value" sValue f fd) (G : Bf w K mg) : FnOk P w K mg base CX0 1 f fd ["thing"] (spB valD) := by
  refine Fun.okW F scValue (fun vs H Q E h => by obtain ⟨a, b, c, rfl, _⟩ := h; rfl) (fun cdv B out s H vs Q E hr h => ?_)
  obtain ⟨S, v, d, rfl, hd, hok, q⟩ := h
  obtain ⟨t8, m8⟩ := G.most
  refine l_cons (WS.cut (P := fun σ H2 => H2 = H ∧ ∃ z, d = .str z ∧ σ = [some (.str z)] ∧ z.length ≤ 8) (s_if (t_w (w_or (t_not (t_val (e_isi G.isi G.str PyProof.Rows.boot_str (e_var 0 rfl ⟨tyD d, isStr d, hd.ty, kit_str d, isStr d, rfl, fun e => ?_, fun e => ?_⟩)))))) ) ?_)
  · have nt : isStr d = false := by simpa using e
    refine ⟨fun _ => ?_, fun e => Bool.noConfusion e⟩
    have e2 : valD d = false := by cases d <;> first | rfl | cases nt
    exact l_one (s_ret (e_bl (by have := q H (Same.refl _); rw [e2] at this; exact this)))
  · have nt : isStr d = true := by simpa using e
    cases hd with
    | str z =>
      refine w_or1 (t_gt (e_lenS G.len (e_var 0 rfl ⟨z, rfl, str_line hok, e_glob (v := .int 8) m8 ⟨_, rfl⟩ ⟨_, _, rfl, rfl, ?_⟩⟩)))
      by_cases h2 : (8 : Int) < (z.length : Int)
      · rw [decide_eq_true h2]
        refine ⟨fun _ => ?_, fun e => Bool.noConfusion e⟩
        have e2 : valD (.str z) = false := by
          show (_ && decide (z.length ≤ 8) && _) = false
          rw [decide_eq_false (show ¬ z.length ≤ 8 by omega)]; simp
        exact l_one (s_ret (e_bl (by have := q H (Same.refl _); rw [e2] at this; exact this)))
      · rw [decide_eq_false h2]
        exact ⟨fun e => Bool.noConfusion e, fun _ => l_nil ⟨rfl, z, rfl, rfl, by omega⟩⟩
    | _ => cases nt
  rintro σ H2 ⟨rfl, z, rfl, rfl, h2⟩
  have e2 : valD (.str z) = (Txt.isascii z && (Txt.isalpha z && Txt.islower z)) := by
    show (decide (1 ≤ z.length) && decide (z.length ≤ 8) && z.cps.toList.all letB) = _
    rw [low_eq, decide_eq_true h2, Bool.and_true]; rfl
  have qq := q H2 (Same.refl _)
  rw [e2] at qq
  refine l_one (s_ret (e_and (e_isascii (e_var 0 rfl ⟨z, rfl, _, rfl, fun e => e_and (e_isalpha (e_var 0 rfl ⟨z, rfl, _, rfl, fun e' => e_one (e_islower (e_var 0 rfl ⟨z, rfl, ?_⟩)), fun e' => ?_⟩)), fun e => ?_⟩))))
  · rw [e, e', Bool.true_and, Bool.true_and] at qq; exact qq
  · rw [e, e', Bool.true_and, Bool.false_and] at qq; exact qq
  · rw [e, Bool.false_and] at qq; exact qq
theorem scName : FnScope ["thing"] ["thing"] (defScope sName) := ⟨rfl, rfl, rfl, by decide +kernel, rfl, by decide +kernel, by decide +kernel⟩
theorem ok_name {f : Addr} {fd : FuncData} (F : Fun K "is_name" "is_name" sName f fd) (G : Bf w K mg) : FnOk P w K mg base CX0 2 f fd ["thing"] (spB namD) := by
  refine Fun.ok1 F scName fun cdv B out s H E d hr hok => ?_
  refine ld_ifret (td_w (wd_strM ⟨G.isi, G.str, G.len⟩ G.most (d_var 0) (d_var 0) hok)) (fun e => ?_) fun e => ?_
  · have e1 : namD d = false := by
      have e' := nb e
      cases d with
      | str z =>
        have e2 : decide (z.length ≤ 8) = false := e'
        show (decide (1 ≤ z.length) && decide (z.length ≤ 8) && z.cps.toList.all letB && _) = false
        rw [e2, Bool.and_false, Bool.false_and, Bool.false_and]
      | _ => rfl
    exact LD.cast (ld_end (sd_ret (d_bl false))) (by rw [e1])
  · have e' := nb' e
    rw [Bool.and_eq_true] at e'
    obtain ⟨z, rfl⟩ : ∃ z, d = .str z := ⟨_, isStr_eq e'.1⟩
    have e8 : decide (z.length ≤ 8) = true := e'.2
    refine LD.cast (ld_end (sd_ret (d_and (r := .none) (d_isascii (z := z) (d_var 0)) fun _ => d_and (r := .none) (d_isalpha (z := z) (d_var 0)) fun _ => d_and (r := .none) (d_islower (z := z) (d_var 0)) fun _ => d_one (d_notInK (z := z) G.resv (d_var 0))))) ?_
    show PyData.bool _ = .bool (decide (1 ≤ z.length) && decide (z.length ≤ 8) && z.cps.toList.all letB && !decide (z ∈ My.resv))
    have e3 := low_eq z
    have e4 : (Txt.isascii z && (Txt.isalpha z && (Txt.islower z && !decide (z ∈ My.resv)))) = ((Txt.isascii z && (Txt.isalpha z && Txt.islower z)) && !decide (z ∈ My.resv)) := by
      cases Txt.isascii z <;> cases Txt.isalpha z <;> rfl
    rw [e4, e3, e8, Bool.and_true]
    rfl
abbrev nAsc : List Str := ["values", "last", "value"]
theorem scAsc : FnScope nAsc ["values"] (defScope sAsc) := ⟨rfl, rfl, rfl, by decide +kernel, rfl, by decide +kernel, by decide +kernel⟩
def FAsc : List PyData → Option PyData
  | [.tuple ds] => if ds.all valD = true then some (.bool (ascF Str.empty (ds.map My.strOf))) else none
  | _ => none
theorem FAsc_of {ds : List PyData} (h : ds.all valD = true) : FAsc [.tuple ds] = some (.bool (ascF Str.empty (ds.map My.strOf))) := if_pos h
theorem FAsc_inv {es : List PyData} {r : PyData} (h : FAsc es = some r) : ∃ ds, es = [.tuple ds] ∧ ds.all valD = true ∧ r = .bool (ascF Str.empty (ds.map My.strOf)) := by
  match es, h with
  | [.tuple ds], h =>
    by_cases hv : ds.all valD = true
    · rw [FAsc_of hv] at h
      cases h
      exact ⟨ds, rfl, hv, rfl⟩
    · have e : (if ds.all valD = true then some (PyData.bool (ascF Str.empty (ds.map My.strOf))) else none) = some r := h
      rw [if_neg hv] at e
      cases e
theorem asc_for {X : Cx} {d0 : PyData} {body : List Stmt}
    (h1 : ∀ (x z : Str), lt x z → LD X [some d0, some (.str x), some (.str z)] body (.nx [some d0, some (.str z), some (.str z)]))
    (h2 : ∀ (x z : Str), ¬ lt x z → LD X [some d0, some (.str x), some (.str z)] body (.ret (.bool false))) :
    ∀ (zs : List Str) (x : Str) (u : Option PyData), (ascF x zs = true → ∃ y v, ForD X 2 body (zs.map PyData.str) [some d0, some (.str x), u] (.nx [some d0, some (.str y), v])) ∧ (ascF x zs = false → ForD X 2 body (zs.map PyData.str) [some d0, some (.str x), u] (.ret (.bool false)))
  | [], x, u => ⟨fun _ => ⟨x, u, .done⟩, fun e => by cases e⟩
  | z :: r, x, u => by
    have e : ascF x (z :: r) = (!(!decide (lt x z)) && ascF z r) := rfl
    obtain ⟨i1, i2⟩ := asc_for h1 h2 r z (some (.str z))
    by_cases hl : lt x z
    · rw [decide_eq_true hl] at e
      have e' : ascF x (z :: r) = ascF z r := by rw [e]; rfl
      rw [e']
      refine ⟨fun c => ?_, fun c => ?_⟩
      · obtain ⟨y, v, hf⟩ := i1 c
        exact ⟨y, v, .next (h1 x z hl) hf⟩
      · exact .next (h1 x z hl) (i2 c)
    · rw [decide_eq_false hl] at e
      refine ⟨fun c => ?_, fun c => .ret (h2 x z hl)⟩
      rw [e] at c
      cases c
theorem ok_asc {f : Addr} {fd : FuncData} (F : Fun K "are_ascending" "are_ascending" sAsc f fd) : FnOk P w K mg base CX0 1 f fd ["values"] (spD FAsc) := by
  refine Fun.okD F scAsc (fun ds d h => by obtain ⟨e, rfl, _⟩ := FAsc_inv h; rfl) fun cdv B out s H E es d hr h => ?_
  obtain ⟨ds, rfl, hv, rfl⟩ := FAsc_inv h
  have eds : ds = (ds.map My.strOf).map PyData.str := by
    clear h
    induction ds with
    | nil => rfl
    | cons x r ih =>
      rw [List.all_cons, Bool.and_eq_true] at hv
      rw [List.map_cons, List.map_cons, ← ih hv.2]
      congr 1
      cases x <;> first | rfl | (have z : false = true := hv.1; cases z)
  generalize ds.map My.strOf = zs at eds ⊢
  subst eds
  refine ld_cons (sd_set 1 (d_str _) scAsc.nd) ?_
  have step := asc_for (X := (cxOf CX0 P w K mg base nAsc "are_ascending" (defScope sAsc) f cdv B out s H E).nox) (d0 := .tuple (zs.map PyData.str)) (body := (match defBody sAsc with | _ :: .For _ _ l _ _ :: _ => l | _ => [])) (fun x z hl => ?_) (fun x z hl => ?_) zs Str.empty none
  · cases hall : ascF Str.empty zs with
    | false => exact ld_end (sd_forT 2 (d_var 0) (step.2 hall) (pg_name (i := 2) scAsc.nd rfl (.inl rfl)) PassesOwn.never)
    | true =>
      obtain ⟨y, v, hf⟩ := step.1 hall
      exact ld_cons (sd_forT 2 (d_var 0) hf (pg_name (i := 2) scAsc.nd rfl (.inl rfl)) PassesOwn.never) (ld_end (sd_ret (d_bl true)))
  · exact ld_cons (sd_if (k := false) (td_cmp o_leS (d_var 2) (d_var 1) ⟨_, _, rfl, rfl, by rw [decide_eq_true hl]; rfl⟩) (fun e => by cases e) fun _ => ld_nil) (ld_cons (sd_set 1 (d_var 2) scAsc.nd) ld_nil)
  · exact ld_end (sd_if (k := true) (td_cmp o_leS (d_var 2) (d_var 1) ⟨_, _, rfl, rfl, by rw [decide_eq_false hl]; rfl⟩) (fun _ => ld_end (sd_ret (d_bl false))) fun e => by cases e)
theorem scValues : FnScope ["thing"] ["thing"] (defScope sValues) := ⟨rfl, rfl, rfl, by decide +kernel, rfl, by decide +kernel, by decide +kernel⟩
theorem ok_values {f : Addr} {fd : FuncData} (F : Fun K "is_values" "is_values" sValues f fd) (G : Bf w K mg) (cV : CalN P w K mg base 1 "is_value" (spB valD)) (cT : CalN P w K mg base 2 "is_tuple_of" (spTO P w K mg base 1)) (cA : CalN P w K mg base 1 "are_ascending" (spD FAsc)) :
    FnOk P w K mg base CX0 3 f fd ["thing"] (spB valsD) := by
  refine Fun.ok1 F scValues fun cdv B out s H E d hr hok => ?_
  refine LD.cast (ld_end (sd_ret (d_and (r := d) (m := ascF Str.empty ((els d).map My.strOf)) (d_tupOf cT cV hr (by decide) (d_var 0) (d_int 1) (d_gint G.mostV) hok (by decide)) fun e => d_one ?_))) ?_
  · obtain ⟨t1, _, _, t3⟩ := tupD_els e
    exact d_call cA hr (by decide) (ad_cons ((d_var 0).cast (els_tup t1)) ad_nil) (FAsc_of (List.all_eq_true.mpr t3))
  · cases d with
    | tuple ds =>
      show PyData.bool ((decide ((1 : Int) ≤ ds.length) && decide ((ds.length : Int) ≤ 8) && ds.all valD) && ascF Str.empty (ds.map My.strOf)) = .bool (decide (1 ≤ ds.length) && decide (ds.length ≤ 8) && ds.all valD && ascS (ds.map My.strOf))
      have e1 : decide ((1 : Int) ≤ ds.length) = decide (1 ≤ ds.length) := by apply Bool.eq_iff_iff.mpr; simp only [decide_eq_true_eq]; omega
      have e3 : decide ((ds.length : Int) ≤ 8) = decide (ds.length ≤ 8) := by apply Bool.eq_iff_iff.mpr; simp only [decide_eq_true_eq]; omega
      rw [e1, e3]
      cases hv : ds.all valD with
      | false => rw [Bool.and_false, Bool.false_and, Bool.false_and]
      | true =>
        rw [ascF_empty]
        intro z hz
        obtain ⟨x, hx, rfl⟩ := List.mem_map.mp hz
        have h1 := List.all_eq_true.mp hv x hx
        cases x with
        | str z =>
          have h2 : (decide (1 ≤ z.length) && decide (z.length ≤ 8) && z.cps.toList.all letB) = true := h1
          rw [Bool.and_eq_true, Bool.and_eq_true] at h2
          exact of_decide_eq_true h2.1.1
        | _ => cases h1
    | _ => rfl
end
end K04

namespace K04
open PySem PySem.Spec PyProof.Rows L2 My
section
variable {P : Program} {w : World} {K : PySem.W.Frag} {mg : Str → Option Value} {base : Heap}
structure Bs (w : World) (K : PySem.W.Frag) (mg : Str → Option Value) : Prop extends Bf w K mg where
  bool : mg "bool" = none
  any : mg "any" = none
  mSources : ∃ t, mg "MOST_SOURCES" = some (.int 4 t)
  mTold : ∃ t, mg "MOST_TOLD" = some (.int 8 t)
  mCond : ∃ t, mg "MOST_CONDITIONS" = some (.int 8 t)
  mTerms : ∃ t, mg "MOST_TERMS" = some (.int 2 t)
  mSchemas : ∃ t, mg "MOST_SCHEMAS" = some (.int 6 t)
  deepest : ∃ t, mg "DEEPEST_CALL" = some (.int 3 t)
theorem Bs.g3 {w : World} {mg : Str → Option Value} {K : PySem.W.Frag} (G : Bs w K mg) : mg "isinstance" = none ∧ mg "tuple" = none ∧ mg "len" = none := ⟨G.isi, G.tuple, G.len⟩
theorem scNN : FnScope ["thing"] ["thing"] (defScope sNN) := ⟨rfl, rfl, rfl, by decide +kernel, rfl, by decide +kernel, by decide +kernel⟩
theorem ok_nn {f : Addr} {fd : FuncData} (F : Fun K "is_name_or_none" "is_name_or_none" sNN f fd) (G : Bs w K mg) (cN : CalN P w K mg base 2 "is_name" (spB namD)) : FnOk P w K mg base CX0 3 f fd ["thing"] (spB nnD) := by
  refine Fun.ok1 F scNN fun cdv B out s H E d hr hok => ?_
  exact ld_end (sd_ret (d_or (d_isN (d_var 0)) fun _ => d_one (d_fn cN hr (Nat.le_refl _) (d_var 0) hok)))
abbrev nColumn : List Str := ["thing", "label", "name"]
theorem scColumn : FnScope nColumn ["thing"] (defScope sColumn) := ⟨rfl, rfl, rfl, by decide +kernel, rfl, by decide +kernel, by decide +kernel⟩
theorem ok_column {f : Addr} {fd : FuncData} (F : Fun K "is_column" "is_column" sColumn f fd) (G : Bs w K mg) (cN : CalN P w K mg base 2 "is_name" (spB namD)) : FnOk P w K mg base CX0 4 f fd ["thing"] (spB colD) := by
  refine Fun.ok1 F scColumn fun cdv B out s H E d hr hok => ?_
  refine ld_ifret (k := !tupN d 2) (td_w (wd_tupN1 (n := 2) G.g3 (d_var 0) (d_var 0))) (fun h => ?_) fun h => ?_
  · refine LD.cast (ld_end (sd_ret (d_bl false))) ?_
    have h' : tupN d 2 = false := nb h
    unfold colD My.pairD
    rw [h']; rfl
  have h2 : tupN d 2 = true := nb' h
  refine ld_cons (sd_unp2 1 2 ((d_var 0).cast (tup2 h2)) (pg_tup rfl (pgs_cons (pg_name (i := 1) scColumn.nd rfl (.inl rfl)) (pgs_cons (pg_name (i := 2) scColumn.nd rfl (.inl rfl)) pgs_nil)))) ?_
  refine LD.cast (ld_end (sd_ret (d_and (r := d) (d_or (d_isN (d_var 1)) fun _ => d_one (d_fn cN hr (by decide) (d_var 1) (okS_at hok 0))) fun _ => d_one (d_fn cN hr (by decide) (d_var 2) (okS_at hok 1))))) ?_
  unfold colD My.pairD
  rw [h2, Bool.true_and]
  rfl
abbrev nCall : List Str := ["thing", "deepest", "word", "schema", "name", "terms", "term"]
theorem scCall : FnScope nCall ["thing", "deepest"] (defScope sCall) := ⟨rfl, rfl, rfl, by decide +kernel, rfl, by decide +kernel, by decide +kernel⟩
def FC (k : Nat) : List PyData → Option PyData
  | [d, .int i] => if i = k ∧ okS d = true then some (.bool (callD k d)) else none
  | _ => none
theorem FC_inv {k : Nat} {ds : List PyData} {r : PyData} (h : FC k ds = some r) : ∃ d, ds = [d, .int k] ∧ okS d = true ∧ r = .bool (callD k d) := by
  match ds, h with
  | [d, .int i], h =>
    by_cases hk : i = k ∧ okS d = true
    · have e : (if i = k ∧ okS d = true then some (PyData.bool (callD k d)) else none) = some r := h
      rw [if_pos hk] at e
      cases e
      exact ⟨d, by rw [hk.1], hk.2, rfl⟩
    · have e : (if i = k ∧ okS d = true then some (PyData.bool (callD k d)) else none) = some r := h
      rw [if_neg hk] at e
      cases e
theorem FC_of {k : Nat} {d : PyData} (h : okS d = true) : FC k [d, .int k] = some (.bool (callD k d)) := if_pos ⟨rfl, h⟩
theorem ok_call {f : Addr} {fd : FuncData} (F : Fun K "is_call" "is_call" sCall f fd) (bd : Binds K fd ["thing", "deepest"] []) (hm : mg "is_call" = some (.ref f)) (G : Bs w K mg) (cV : CalN P w K mg base 1 "is_value" (spB valD)) (cN : CalN P w K mg base 2 "is_name" (spB namD)) (cNN : CalN P w K mg base 3 "is_name_or_none" (spB nnD)) (cC : CalN P w K mg base 4 "is_column" (spB colD)) :
    ∀ k, FnOk P w K mg base CX0 (k + 5) f fd ["thing", "deepest"] (spD (FC k))
  | 0 => by
    refine Fun.okD (k := 4) F scCall (fun ds d h => by obtain ⟨e, rfl, _⟩ := FC_inv h; rfl) fun cdv B out s H E ds d hr h => ?_
    obtain ⟨e, rfl, ok, rfl⟩ := FC_inv h
    refine ld_ifret (k := true) ((td_w (wd_or (k := true) (m := true) (td_cmp o_eqI (d_var 1) (d_int 0) ⟨_, _, rfl, rfl, rfl⟩) fun e => by cases e))) (fun _ => ld_end (sd_ret (d_bl false))) fun e => by cases e
  | k + 1 => by
    have ih := ok_call F bd hm G cV cN cNN cC k
    have cI : CalN P w K mg base (k + 5) "is_call" (spD (FC k)) := ⟨f, fd, _, ih, hm, F.kp, bd⟩
    refine Fun.okD (k := k + 5) F scCall (fun ds d h => by obtain ⟨e, rfl, _⟩ := FC_inv h; rfl) fun cdv B out s H E ds d hr h => ?_
    obtain ⟨d, rfl, ok, rfl⟩ := FC_inv h
    refine ld_ifret (k := !tupN d 4) ((td_w ((wd_or (k := false) (m := !tupN d 4) (td_cmp o_eqI (d_var 1) (d_int 0) ⟨_, _, rfl, rfl, ?_⟩) fun _ => ?_)))) (fun h => ?_) fun h => ?_
    · exact (decide_eq_false (by omega)).symm
    · exact wd_tupN1 (n := 4) G.g3 (d_var 0) (d_var 0)
    · refine LD.cast (ld_end (sd_ret (d_bl false))) ?_
      have h' : tupN d 4 = false := nb h
      show PyData.bool false = .bool (tupN d 4 && _ && _)
      rw [h']; rfl
    have h4 : tupN d 4 = true := nb' h
    have e4 := tup4 h4
    refine ld_cons (sd_unp4 2 3 4 5 ((d_var 0).cast e4) (pg_tup rfl (pgs_cons (pg_name (i := 2) scCall.nd rfl (.inl rfl)) (pgs_cons (pg_name (i := 3) scCall.nd rfl (.inl rfl)) (pgs_cons (pg_name (i := 4) scCall.nd rfl (.inl rfl)) (pgs_cons (pg_name (i := 5) scCall.nd rfl (.inl rfl)) pgs_nil)))))) ?_
    refine ld_ifret (k := !(eqS (at' d 0) "call" && nnD (at' d 1) && namD (at' d 2))) ((td_w (WD.cast (wd_or (k := !eqS (at' d 0) "call") (m := !nnD (at' d 1) || !namD (at' d 2)) (td_cmp (o_neS hr.units) (d_var 2) (d_str _) ⟨_, rfl, rfl⟩) fun _ => wd_or (td_not (td_val (d_fn cNN hr (by omega) (d_var 3) (okS_at ok 1)))) fun _ => wd_or1 (td_not (td_val (d_fn cN hr (by omega) (d_var 4) (okS_at ok 2))))) ?_))) (fun h => ?_) fun h => ?_
    · cases eqS (at' d 0) "call" <;> cases nnD (at' d 1) <;> cases namD (at' d 2) <;> rfl
    · refine LD.cast (ld_end (sd_ret (d_bl false))) ?_
      have h' : (eqS (at' d 0) "call" && nnD (at' d 1) && namD (at' d 2)) = false := nb h
      show PyData.bool false = .bool (tupN d 4 && (eqS (at' d 0) "call" && nnD (at' d 1) && namD (at' d 2)) && _)
      rw [h', Bool.and_false]; rfl
    have h5 : (eqS (at' d 0) "call" && nnD (at' d 1) && namD (at' d 2)) = true := nb' h
    have ev : callD (k + 1) d = tupD 1 2 (fun x => colD x || valD x || callD k x) (at' d 3) := by
      show (tupN d 4 && (eqS (at' d 0) "call" && nnD (at' d 1) && namD (at' d 2)) && _) = _
      rw [h4, h5]; rfl
    rw [ev]
    refine ld_ifret (k := !tupD 1 2 (fun _ => true) (at' d 3)) (td_w (wd_tupB G.g3 (d_var 5) (d_var 5) (d_int 1) (d_gint G.mTerms))) (fun h => ?_) fun h => ?_
    · refine LD.cast (ld_end (sd_ret (d_bl false))) ?_
      have h' : tupD 1 2 (fun _ => true) (at' d 3) = false := nb h
      rw [tupD_no h']
    have h6 : tupD 1 2 (fun _ => true) (at' d 3) = true := nb' h
    obtain ⟨ht, l1, l2, _⟩ := tupD_els h6
    refine LD.cast (ld_forAll 6 (fun x => colD x || valD x || callD k x) ((d_var 5).cast (els_tup ht)) (fun x hx => ?_) (pg_name (i := 6) scCall.nd rfl (Or.inl rfl)) PassesOwn.never) ?_
    · have okx := okS_els (okS_at ok 3) x hx
      have e : (!(colD x || valD x || callD k x)) = (!colD x && (!valD x && !callD k x)) := by cases colD x <;> cases valD x <;> rfl
      rw [e]
      refine td_w (wd_and (td_not (td_val (d_fn cC hr (by omega) (d_var 6) okx))) fun _ => wd_and (td_not (td_val (d_fn cV hr (by omega) (d_var 6) okx))) fun _ => wd_and1 (td_not (td_val (d_call cI hr (by omega) (ad_cons (d_var 6) (ad_cons (d_subI (i := ((k + 1 : Nat) : Int)) (j := 1) (d_var 1) (d_int 1)) ad_nil)) ?_))))
      have e2 : ((k + 1 : Nat) : Int) - 1 = (k : Int) := by omega
      rw [e2]
      exact FC_of okx
    · rw [tupD_yes h6]
theorem scTold : FnScope ["thing"] ["thing"] (defScope sTold) := ⟨rfl, rfl, rfl, by decide +kernel, rfl, by decide +kernel, by decide +kernel⟩
theorem ok_told {f : Addr} {fd : FuncData} (F : Fun K "is_told" "is_told" sTold f fd) (G : Bs w K mg) (cV : CalN P w K mg base 1 "is_value" (spB valD)) (cN : CalN P w K mg base 2 "is_name" (spB namD)) (cC : CalN P w K mg base 4 "is_column" (spB colD)) (cI : CalN P w K mg base 8 "is_call" (spD (FC 3))) :
    FnOk P w K mg base CX0 9 f fd ["thing"] (spB toldD) := by
  refine Fun.ok1 F scTold fun cdv B out s H E d hr hok => ?_
  refine ld_ifret (k := !isTup d) (td_not (td_val (d_isTup G.isi G.tuple (d_var 0)))) (fun h => ?_) fun h => ?_
  · refine LD.cast (ld_end (sd_ret (d_bl false))) ?_
    have nt := nb h
    simp [toldD, My.pairD, tupN, nt]
  have ht := nb' h
  refine ld_ifret (k := decide ((els d).length = 2)) (td_cmp o_eqI (d_len (ds := els d) G.len ((d_var 0).cast (els_tup ht))) (d_int 2) ⟨_, _, rfl, rfl, (dec_cast _ 2).symm⟩) (fun h2 => ?_) fun h2 => ?_
  · have hl := of_decide_eq_true h2
    refine LD.cast (ld_end (sd_ret (d_and (r := d) (d_cmp (o_eqS hr.units) (d_at (n := 0) (d_var 0) ht (by rw [hl]; decide)) (d_str _) ⟨_, rfl, rfl⟩) fun _ => d_one (d_fn cN hr (by decide) (d_at (n := 0) (d_var 0) ht (by rw [hl]; decide)) (okS_at hok 1))))) ?_
    unfold toldD
    rw [if_pos (show My.pairD d = true by unfold My.pairD tupN; rw [ht, h2]; rfl)]
  have ev : toldD d = (tupN d 3 && namD (at' d 2) && (if eqS (at' d 0) "column" then colD (at' d 1) else eqS (at' d 0) "term" && (valD (at' d 1) || callD 3 (at' d 1)))) := by
    unfold toldD
    rw [if_neg (show ¬ My.pairD d = true by unfold My.pairD tupN; rw [ht, h2]; decide)]
  rw [ev]
  have e3 : tupN d 3 = decide ((els d).length = 3) := by unfold tupN; rw [ht, Bool.true_and]
  refine ld_ifret (k := !tupN d 3 || !namD (at' d 2)) (td_w (wd_or (k := !tupN d 3) (td_cmp o_neI (d_len (ds := els d) G.len ((d_var 0).cast (els_tup ht))) (d_int 3) ⟨_, _, rfl, rfl, by rw [e3]; exact congrArg Bool.not (dec_cast _ 3).symm⟩) fun h3 => wd_or1 (td_not (td_val (d_fn cN hr (by decide) (d_at (n := 0) (d_var 0) ht (by rw [(tupN_tup (nb' h3)).2]; decide)) (okS_at hok 2)))))) (fun h => ?_) fun h => ?_
  · refine LD.cast (ld_end (sd_ret (d_bl false))) ?_
    have e : (tupN d 3 && namD (at' d 2)) = false := by revert h; cases tupN d 3 <;> cases namD (at' d 2) <;> decide
    rw [e]; rfl
  have e : (tupN d 3 && namD (at' d 2)) = true := by revert h; cases tupN d 3 <;> cases namD (at' d 2) <;> decide
  rw [e, Bool.true_and]
  rw [Bool.and_eq_true] at e
  obtain ⟨_, hl⟩ := tupN_tup e.1
  refine ld_ifret (td_cmp (o_eqS hr.units) (d_at (n := 0) (d_var 0) ht (by rw [hl]; decide)) (d_str _) ⟨_, rfl, rfl⟩) (fun h => ?_) fun h => ?_
  · refine LD.cast (ld_end (sd_ret (d_fn cC hr (by decide) (d_at (n := 0) (d_var 0) ht (by rw [hl]; decide)) (okS_at hok 1)))) ?_
    rw [if_pos h]
  rw [if_neg (by rw [h]; decide)]
  refine ld_end (sd_ret (d_and (r := d) (d_cmp (o_eqS hr.units) (d_at (n := 0) (d_var 0) ht (by rw [hl]; decide)) (d_str _) ⟨_, rfl, rfl⟩) fun _ => d_one (d_or (d_fn cV hr (by decide) (d_at (n := 0) (d_var 0) ht (by rw [hl]; decide)) (okS_at hok 1)) fun _ => d_one (d_call cI hr (by decide) (ad_cons (d_at (n := 0) (d_var 0) ht (by rw [hl]; decide)) (ad_cons (d_gint G.deepest) ad_nil)) (FC_of (okS_at hok 1))))))
abbrev nSource : List Str := ["thing", "schema", "name", "label"]
theorem scSource : FnScope nSource ["thing"] (defScope sSource) := ⟨rfl, rfl, rfl, by decide +kernel, rfl, by decide +kernel, by decide +kernel⟩
theorem ok_source {f : Addr} {fd : FuncData} (F : Fun K "is_source" "is_source" sSource f fd) (G : Bs w K mg) (cN : CalN P w K mg base 2 "is_name" (spB namD)) : FnOk P w K mg base CX0 4 f fd ["thing"] (spB srcD) := by
  refine Fun.ok1 F scSource fun cdv B out s H E d hr hok => ?_
  refine ld_ifret (k := !tupN d 3) (td_w (wd_tupN1 (n := 3) G.g3 (d_var 0) (d_var 0))) (fun h => ?_) fun h => ?_
  · refine LD.cast (ld_end (sd_ret (d_bl false))) ?_
    have h' : tupN d 3 = false := nb h
    unfold srcD
    rw [h']; rfl
  have h3 : tupN d 3 = true := nb' h
  refine ld_cons (sd_unp3 1 2 3 ((d_var 0).cast (tup3 h3)) (pg_tup rfl (pgs_cons (pg_name (i := 1) scSource.nd rfl (.inl rfl)) (pgs_cons (pg_name (i := 2) scSource.nd rfl (.inl rfl)) (pgs_cons (pg_name (i := 3) scSource.nd rfl (.inl rfl)) pgs_nil))))) ?_
  refine LD.cast (ld_end (sd_ret (d_and (r := d) (d_or (d_isN (d_var 1)) fun _ => d_one (d_fn cN hr (by decide) (d_var 1) (okS_at hok 0))) fun _ => d_and (r := d) (d_fn cN hr (by decide) (d_var 2) (okS_at hok 1)) fun _ => d_one (d_fn cN hr (by decide) (d_var 3) (okS_at hok 2))))) ?_
  unfold srcD
  rw [h3, Bool.true_and, Bool.and_assoc]
  rfl
theorem scCond : FnScope ["thing"] ["thing"] (defScope sCond) := ⟨rfl, rfl, rfl, by decide +kernel, rfl, by decide +kernel, by decide +kernel⟩
theorem ok_cond {f : Addr} {fd : FuncData} (F : Fun K "is_condition" "is_condition" sCond f fd) (G : Bs w K mg) (cC : CalN P w K mg base 4 "is_column" (spB colD)) (cVs : CalN P w K mg base 3 "is_values" (spB valsD)) : FnOk P w K mg base CX0 5 f fd ["thing"] (spB condD) := by
  refine Fun.ok1 F scCond fun cdv B out s H E d hr hok => ?_
  refine ld_ifret (k := !tupN d 3 || !colD (at' d 1)) (td_w (wd_tupN G.g3 (d_var 0) (d_var 0) fun h3 => wd_or1 (td_not (td_val (d_fn cC hr (by decide) (d_at (n := 0) (d_var 0) (tupN_tup h3).1 (by rw [(tupN_tup h3).2]; decide)) (okS_at hok 1)))))) (fun h => ?_) fun h => ?_
  · refine LD.cast (ld_end (sd_ret (d_bl false))) ?_
    have e : (tupN d 3 && colD (at' d 1)) = false := by revert h; cases tupN d 3 <;> cases colD (at' d 1) <;> decide
    unfold condD
    rw [e]; rfl
  have e : (tupN d 3 && colD (at' d 1)) = true := by revert h; cases tupN d 3 <;> cases colD (at' d 1) <;> decide
  have ev : condD d = (if eqS (at' d 0) "equal" then colD (at' d 2) else eqS (at' d 0) "in" && valsD (at' d 2)) := by
    unfold condD
    rw [e, Bool.true_and]
  rw [ev]
  rw [Bool.and_eq_true] at e
  obtain ⟨ht, hl⟩ := tupN_tup e.1
  refine ld_ifret (td_cmp (o_eqS hr.units) (d_at (n := 0) (d_var 0) ht (by rw [hl]; decide)) (d_str _) ⟨_, rfl, rfl⟩) (fun h => ?_) fun h => ?_
  · refine LD.cast (ld_end (sd_ret (d_fn cC hr (by decide) (d_at (n := 0) (d_var 0) ht (by rw [hl]; decide)) (okS_at hok 2)))) ?_
    rw [if_pos h]
  rw [if_neg (by rw [h]; decide)]
  exact ld_end (sd_ret (d_and (r := d) (d_cmp (o_eqS hr.units) (d_at (n := 0) (d_var 0) ht (by rw [hl]; decide)) (d_str _) ⟨_, rfl, rfl⟩) fun _ => d_one (d_fn cVs hr (by decide) (d_at (n := 0) (d_var 0) ht (by rw [hl]; decide)) (okS_at hok 2))))
theorem src_lab {x : PyData} (h : srcD x = true) : ∃ z, at' x 2 = .str z := by
  unfold srcD at h
  simp only [Bool.and_eq_true] at h
  exact ⟨_, nam_str h.2.2⟩
abbrev nStatement : List Str := ["thing", "distinct", "told", "sources", "conditions", "source"]
theorem scStatementP : FnScope nStatement ["thing"] (defScope sStatementP) := ⟨rfl, rfl, rfl, by decide +kernel, rfl, by decide +kernel, by decide +kernel⟩
theorem ok_statementP {f : Addr} {fd : FuncData} (F : Fun K "is_statement" "is_statement" sStatementP f fd) (G : Bs w K mg) (cT : CalN P w K mg base 10 "is_tuple_of" (spTO P w K mg base 9)) (cD : CalN P w K mg base 1 "are_different" (spDiff K))
    (c1 : CalN P w K mg base 9 "is_told" (spB toldD)) (c2 : CalN P w K mg base 9 "is_source" (spB srcD)) (c3 : CalN P w K mg base 9 "is_condition" (spB condD)) : FnOk P w K mg base CX0 11 f fd ["thing"] (spB stD) := by
  refine Fun.ok1 F scStatementP fun cdv B out s H E d hr hok => ?_
  refine ld_ifret (k := !tupN d 4) (td_w (wd_tupN1 (n := 4) G.g3 (d_var 0) (d_var 0))) (fun h => ?_) fun h => ?_
  · refine LD.cast (ld_end (sd_ret (d_bl false))) ?_
    unfold stD
    rw [nb h]; rfl
  have h4 := nb' h
  refine ld_cons (sd_unp4 1 2 3 4 ((d_var 0).cast (tup4 h4)) (pg_tup rfl (pgs_cons (pg_name (i := 1) scStatementP.nd rfl (.inl rfl)) (pgs_cons (pg_name (i := 2) scStatementP.nd rfl (.inl rfl)) (pgs_cons (pg_name (i := 3) scStatementP.nd rfl (.inl rfl)) (pgs_cons (pg_name (i := 4) scStatementP.nd rfl (.inl rfl)) pgs_nil)))))) ?_
  have ev : stD d = (isBoo (at' d 0) && (tupD 1 8 toldD (at' d 1) && (tupD 1 4 srcD (at' d 2) && (decide (labs (at' d 2) 2).Nodup && tupD 0 8 condD (at' d 3))))) := by
    unfold stD
    rw [h4, Bool.true_and, Bool.and_assoc, Bool.and_assoc, Bool.and_assoc]
  rw [ev]
  refine ld_end (sd_ret (d_and (r := d) (d_isBool G.isi G.bool (d_var 1)) fun _ => d_and (r := d) (d_tupOf (f := toldD) cT c1 hr (by decide) (d_var 2) (d_int 1) (d_gint G.mTold) (okS_at hok 1) (by decide)) fun _ => d_and (r := d) (d_tupOf (f := srcD) cT c2 hr (by decide) (d_var 3) (d_int 1) (d_gint G.mSources) (okS_at hok 2) (by decide)) fun hs => d_and (r := d) ?_ fun _ => d_one (d_tupOf (f := condD) cT c3 hr (by decide) (d_var 4) (d_int 0) (d_gint G.mCond) (okS_at hok 3) (by decide))))
  obtain ⟨ht, l1, l2, hsrc⟩ := tupD_els hs
  have hll : (labs (at' d 2) 2).length = (els (at' d 2)).length := List.length_map ..
  refine d_diff cD hr (by decide) (.inl (ED.cast (d_lcT (n := 0) 5 (fun x => at' x 2) scStatementP.nd (blkOk_by (N := nStatement) (sc := defScope sStatementP) (by decide +kernel)) ((d_var 3).cast (els_tup ht)) (by omega) (fun x hx => ?_) (fun _ _ _ _ _ => pg_name (i := 5) scStatementP.nd rfl (Or.inl rfl))) (congrArg PyData.list (labs_data fun x hx => src_lab (hsrc x hx))))) (by omega)
  intro s0 H00 C cl fp
  have hx3 := hsrc x hx
  unfold srcD at hx3
  rw [Bool.and_eq_true] at hx3
  obtain ⟨hxt, hxl⟩ := tupN_tup hx3.1
  exact d_at (n := 0) (d_var 5) hxt (by rw [hxl]; decide)
theorem scPath : FnScope ["thing"] ["thing"] (defScope sPath) := ⟨rfl, rfl, rfl, by decide +kernel, rfl, by decide +kernel, by decide +kernel⟩
theorem ok_path {f : Addr} {fd : FuncData} (F : Fun K "is_path" "is_path" sPath f fd) (G : Bs w K mg) (cT : CalN P w K mg base 10 "is_tuple_of" (spTO P w K mg base 9)) (cD : CalN P w K mg base 1 "are_different" (spDiff K)) (cN : CalN P w K mg base 9 "is_name" (spB namD)) : FnOk P w K mg base CX0 11 f fd ["thing"] (spB pathD) := by
  refine Fun.ok1 F scPath fun cdv B out s H E d hr hok => ?_
  refine ld_end (sd_ret (d_and (r := d) (d_tupOf (f := namD) cT cN hr (by decide) (d_var 0) (d_int 0) (d_gint G.mSchemas) hok (by decide)) fun hs => d_one (d_diff (zs := (els d).map My.strOf) cD hr (by decide) (.inr ((d_var 0).cast ?_)) ?_)))
  · obtain ⟨ht, l1, l2, hn⟩ := tupD_els hs
    rw [els_tup ht, List.map_map]
    congr 1
    show els d = (els d).map fun x => PyData.str (My.strOf x)
    conv => lhs; rw [← List.map_id (els d)]
    exact List.map_congr_left fun x hx => nam_str (hn x hx)
  · obtain ⟨ht, l1, l2, hn⟩ := tupD_els hs
    rw [List.length_map]; omega
/-- what has_value is asked of -/
def termD (k : Nat) (d : PyData) : Bool := colD d || valD d || callD k d
def FV (k : Nat) : List PyData → Option PyData
  | [d] => if termD k d = true ∧ okS d = true then some (.bool (hasV k d)) else none
  | _ => none
theorem FV_inv {k : Nat} {ds : List PyData} {r : PyData} (h : FV k ds = some r) : ∃ d, ds = [d] ∧ termD k d = true ∧ okS d = true ∧ r = .bool (hasV k d) := by
  match ds, h with
  | [d], h =>
    by_cases hk : termD k d = true ∧ okS d = true
    · have e : (if termD k d = true ∧ okS d = true then some (PyData.bool (hasV k d)) else none) = some r := h
      rw [if_pos hk] at e
      cases e
      exact ⟨d, rfl, hk.1, hk.2, rfl⟩
    · have e : (if termD k d = true ∧ okS d = true then some (PyData.bool (hasV k d)) else none) = some r := h
      rw [if_neg hk] at e
      cases e
theorem FV_of {k : Nat} {d : PyData} (h : termD k d = true) (h2 : okS d = true) : FV k [d] = some (.bool (hasV k d)) := if_pos ⟨h, h2⟩
theorem col_pair {d : PyData} (h : colD d = true) : My.pairD d = true := by
  unfold colD at h
  rw [Bool.and_eq_true] at h
  exact h.1
theorem val_isStr {d : PyData} (h : valD d = true) : isStr d = true := by cases d <;> first | rfl | cases h
theorem term_cases {k : Nat} {d : PyData} (h : termD k d = true) (hs : isStr d = false) : isTup d = true ∧ ((els d).length = 2 ∨ ∃ j, k = j + 1 ∧ (els d).length = 4 ∧ tupD 1 2 (fun x => colD x || valD x || callD j x) (at' d 3) = true) := by
  unfold termD at h
  rw [Bool.or_eq_true, Bool.or_eq_true] at h
  rcases h with (h | h) | h
  · have hp := col_pair h
    obtain ⟨a, b⟩ := tupN_tup (n := 2) hp
    exact ⟨a, .inl b⟩
  · rw [val_isStr h] at hs; cases hs
  · cases k with
    | zero => cases h
    | succ j =>
      have h' : (tupN d 4 && (eqS (at' d 0) "call" && nnD (at' d 1) && namD (at' d 2)) && tupD 1 2 (fun x => colD x || valD x || callD j x) (at' d 3)) = true := h
      rw [Bool.and_eq_true, Bool.and_eq_true] at h'
      obtain ⟨a, b⟩ := tupN_tup h'.1.1
      exact ⟨a, .inr ⟨j, rfl, b, h'.2⟩⟩
abbrev nHasV : List Str := ["term", "inner"]
theorem scHasV : FnScope nHasV ["term"] (defScope sHasV) := ⟨rfl, rfl, rfl, by decide +kernel, rfl, by decide +kernel, by decide +kernel⟩
theorem hasV_str {k : Nat} {d : PyData} (h : isStr d = true) : hasV k d = true := by
  cases k with
  | zero => exact h
  | succ j => show (isStr d || _) = true; rw [h]; rfl
theorem hasV_pair {k : Nat} {d : PyData} (h : isStr d = false) (hp : My.pairD d = true) : hasV k d = false := by
  cases k with
  | zero => exact h
  | succ j => show (isStr d || (!My.pairD d && _)) = false; rw [h, hp]; rfl
theorem hasV_call {k : Nat} {d : PyData} (h : isStr d = false) (hp : My.pairD d = false) : hasV (k + 1) d = (els (at' d 3)).any (hasV k) := by
  show (isStr d || (!My.pairD d && (els (at' d 3)).any (hasV k))) = _
  rw [h, hp]; rfl
theorem hasV_step {f : Addr} {fd : FuncData} (F : Fun K "has_value" "has_value" sHasV f fd) (G : Bs w K mg) (k : Nat) (ih : ∀ j, k = j + 1 → CalN P w K mg base k "has_value" (spD (FV j))) : FnOk P w K mg base CX0 (k + 1) f fd ["term"] (spD (FV k)) := by
  refine Fun.okD (k := k) F scHasV (fun ds d h => by obtain ⟨e, rfl, _⟩ := FV_inv h; rfl) fun cdv B out s H E ds r hr h0 => ?_
  obtain ⟨d, rfl, ht, ok, rfl⟩ := FV_inv h0
  refine ld_ifret (td_val (d_isStr G.isi G.str (d_var 0))) (fun h => ?_) fun h => ?_
  · refine LD.cast (ld_end (sd_ret (d_bl true))) ?_
    rw [hasV_str h]
  obtain ⟨hT, hc⟩ := term_cases ht h
  refine ld_ifret (td_cmp o_eqI (d_len (ds := els d) G.len ((d_var 0).cast (els_tup hT))) (d_int 2) ⟨_, _, rfl, rfl, (dec_cast _ 2).symm⟩) (fun h2 => ?_) fun h2 => ?_
  · refine LD.cast (ld_end (sd_ret (d_bl false))) ?_
    have hp : My.pairD d = true := by unfold My.pairD tupN; rw [hT, h2]; rfl
    rw [hasV_pair h hp]
  · have h2' : ¬ (els d).length = 2 := of_decide_eq_false h2
    rcases hc with hc | ⟨j, rfl, l4, htt⟩
    · exact absurd hc h2'
    have hp : My.pairD d = false := by unfold My.pairD tupN; rw [hT, h2]; rfl
    rw [hasV_call h hp]
    obtain ⟨ht3, _, l2, hin⟩ := tupD_els htt
    refine ld_end (sd_ret (d_anyT 1 (hasV j) G.any scHasV.nd (blkOk_by (N := nHasV) (sc := defScope sHasV) (by decide +kernel)) (ED.cast (d_at (n := 0) (d_var 0) hT (by rw [l4]; decide)) (els_tup ht3)) (by omega) (fun x hx => ?_) (fun _ _ _ _ _ => pg_name (i := 1) scHasV.nd rfl (Or.inl rfl))))
    intro s0 H00 C cl fp
    exact d_call (ih j rfl) hr (Nat.le_refl _) (ad_cons (d_var 1) ad_nil) (FV_of (hin x hx) (okS_els (okS_at ok 3) x hx))
theorem ok_hasV {f : Addr} {fd : FuncData} (F : Fun K "has_value" "has_value" sHasV f fd) (bd : Binds K fd ["term"] []) (hm : mg "has_value" = some (.ref f)) (G : Bs w K mg) (k : Nat) : FnOk P w K mg base CX0 (k + 1) f fd ["term"] (spD (FV k)) := by
  induction k with
  | zero => exact hasV_step F G 0 fun j e => by cases e
  | succ k ih => exact hasV_step F G (k + 1) fun j e => by cases e; exact ⟨f, fd, _, ih, hm, F.kp, bd⟩
abbrev nView : List Str := ["thing", "item"]
theorem scView : FnScope nView ["thing"] (defScope sView) := ⟨rfl, rfl, rfl, by decide +kernel, rfl, by decide +kernel, by decide +kernel⟩
theorem told_len {it : PyData} (h : toldD it = true) : isTup it = true ∧ 2 ≤ (els it).length := by
  unfold toldD at h
  by_cases hp : My.pairD it = true
  · obtain ⟨a, b⟩ := tupN_tup (n := 2) hp
    exact ⟨a, by omega⟩
  · rw [if_neg hp, Bool.and_eq_true, Bool.and_eq_true] at h
    obtain ⟨a, b⟩ := tupN_tup h.1.1
    exact ⟨a, by omega⟩
/-- not a star: a column or a term -/
theorem told_rest {it : PyData} (h : toldD it = true) (hs : eqS (at' it 0) "star" = false) : (els it).length = 3 ∧ isTup it = true ∧ termD 3 (at' it 1) = true ∧ ∃ z, at' it 2 = .str z := by
  unfold toldD at h
  by_cases hp : My.pairD it = true
  · rw [if_pos hp, hs] at h; cases h
  · rw [if_neg hp, Bool.and_eq_true, Bool.and_eq_true] at h
    obtain ⟨a, b⟩ := tupN_tup h.1.1
    refine ⟨b, a, ?_, _, nam_str h.1.2⟩
    have h2 := h.2
    unfold termD
    by_cases hc : eqS (at' it 0) "column" = true
    · rw [if_pos hc] at h2
      rw [h2]; rfl
    · rw [if_neg hc, Bool.and_eq_true] at h2
      rw [Bool.or_assoc, h2.2, Bool.or_true]
theorem view_for {X : Cx} (G3 : X.mg "isinstance" = none) {D0 : PyData} {fn : Nat} (hu : X.A.units + 64 < cLine) {body : List Stmt}
    (step : ∀ it, toldD it = true → okS it = true → (LD X [some D0, some it] body (.ret (.bool false)) ∧ (eqS (at' it 0) "star" || hasV 3 (at' it 1)) = true) ∨ (LD X [some D0, some it] body (.nx [some D0, some it]) ∧ (eqS (at' it 0) "star" || hasV 3 (at' it 1)) = false)) :
    ∀ (ds : List PyData) (o1 : Option PyData), (∀ it ∈ ds, toldD it = true ∧ okS it = true) →
      (ds.all (fun it => !(eqS (at' it 0) "star" || hasV 3 (at' it 1))) = true → ∃ o2, ForD X 1 body ds [some D0, o1] (.nx [some D0, o2])) ∧ (ds.all (fun it => !(eqS (at' it 0) "star" || hasV 3 (at' it 1))) = false → ForD X 1 body ds [some D0, o1] (.ret (.bool false)))
  | [], o1, _ => ⟨fun _ => ⟨o1, .done⟩, fun h => by cases h⟩
  | it :: ds, o1, hd => by
    have h1 := hd it List.mem_cons_self
    have ih := view_for G3 (D0 := D0) (fn := fn) hu step ds (some it) fun x hx => hd x (List.mem_cons_of_mem _ hx)
    rcases step it h1.1 h1.2 with ⟨hb, e⟩ | ⟨hb, e⟩
    · refine ⟨fun h => ?_, fun _ => .ret hb⟩
      rw [List.all_cons, e] at h; cases h
    · refine ⟨fun h => ?_, fun h => ?_⟩
      · rw [List.all_cons, e] at h
        obtain ⟨o2, f2⟩ := ih.1 h
        exact ⟨o2, .next hb f2⟩
      · rw [List.all_cons, e] at h
        exact .next hb (ih.2 h)
theorem ok_view {f : Addr} {fd : FuncData} (F : Fun K "is_view_statement" "is_view_statement" sView f fd) (G : Bs w K mg) (cS : CalN P w K mg base 11 "is_statement" (spB stD)) (cH : CalN P w K mg base 4 "has_value" (spD (FV 3))) (cD : CalN P w K mg base 1 "are_different" (spDiff K)) : FnOk P w K mg base CX0 12 f fd ["thing"] (spB viewD) := by
  refine Fun.ok1 F scView fun cdv B out s H E d hr hok => ?_
  have hboo : stD d = true → isTup d = true ∧ (els d).length = 4 ∧ at' d 0 = .bool (truB (at' d 0)) ∧ isTup (at' d 1) = true ∧ ((els (at' d 1)).length : Int) ≤ 8 ∧ ∀ x ∈ els (at' d 1), toldD x = true := fun h => by
    unfold stD at h
    simp only [Bool.and_eq_true] at h
    obtain ⟨a, b⟩ := tupN_tup h.1
    obtain ⟨t1, _, t2, t3⟩ := tupD_els h.2.1.1.1.2
    refine ⟨a, b, ?_, t1, t2, t3⟩
    have hb := h.2.1.1.1.1
    cases e : at' d 0 <;> rw [e] at hb <;> first | rfl | cases hb
  refine ld_ifret (k := !(stD d && !truB (at' d 0))) (td_w (WD.cast (wd_or (k := !stD d) (m := truB (at' d 0)) (td_not (td_val (d_fn cS hr (by decide) (d_var 0) hok))) fun h => wd_or1 (td_val (ED.cast (d_at (n := 0) (d_var 0) (hboo (nb' h)).1 (by rw [(hboo (nb' h)).2.1]; decide)) (hboo (nb' h)).2.2.1))) ?_)) (fun h => ?_) fun h => ?_
  · cases stD d <;> cases truB (at' d 0) <;> rfl
  · refine LD.cast (ld_end (sd_ret (d_bl false))) ?_
    unfold viewD
    rw [nb h]; rfl
  have h1 := nb' h
  have ev : viewD d = ((els (at' d 1)).all (fun it => !(eqS (at' it 0) "star" || hasV 3 (at' it 1))) && decide (labs (at' d 1) 2).Nodup) := by
    unfold viewD
    rw [h1, Bool.true_and]
  rw [ev]
  rw [Bool.and_eq_true] at h1
  obtain ⟨hT, hl, _, ht1, hl8, htold⟩ := hboo h1.1
  have h1000 : (els (at' d 1)).length ≤ 1000 := by omega
  have step := view_for (X := (cxOf CX0 P w K mg base nView "is_view_statement" (defScope sView) f cdv B out s H E).nox) (D0 := d) (fn := 0) G.isi hr.units (body := (match defBody sView with | _ :: .For _ _ l _ _ :: _ => l | _ => [])) (fun it hit hok2 => ?_) (els (at' d 1)) none fun x hx => ⟨htold x hx, okS_els (okS_at hok 1) x hx⟩
  · cases hall : (els (at' d 1)).all (fun it => !(eqS (at' it 0) "star" || hasV 3 (at' it 1))) with
    | false =>
      rw [Bool.false_and]
      exact ld_end (sd_forT 1 (ED.cast (d_at (n := 0) (d_var 0) hT (by rw [hl]; decide)) (els_tup ht1)) (step.2 hall) (pg_name (i := 1) scView.nd rfl (.inl rfl)) PassesOwn.never)
    | true =>
      rw [Bool.true_and]
      obtain ⟨o2, f2⟩ := step.1 hall
      refine ld_cons (sd_forT 1 (ED.cast (d_at (n := 0) (d_var 0) hT (by rw [hl]; decide)) (els_tup ht1)) f2 (pg_name (i := 1) scView.nd rfl (.inl rfl)) PassesOwn.never) ?_
      have hlab : ∀ x ∈ els (at' d 1), (els x).length = 3 ∧ isTup x = true ∧ ∃ z, at' x 2 = .str z := fun x hx => by
        have e := List.all_eq_true.mp hall x hx
        have e2 := nb e
        rw [Bool.or_eq_false_iff] at e2
        obtain ⟨a, b, _, c⟩ := told_rest (htold x hx) e2.1
        exact ⟨a, b, c⟩
      have hll : (labs (at' d 1) 2).length = (els (at' d 1)).length := List.length_map ..
      refine ld_end (sd_ret (d_diff cD hr (by decide) (.inl (ED.cast (d_lcT (n := 0) 1 (fun x => at' x 2) scView.nd (blkOk_by (N := nView) (sc := defScope sView) (by decide +kernel)) (ED.cast (d_at (n := 0) (d_var 0) hT (by rw [hl]; decide)) (els_tup ht1)) h1000 (fun x hx => ?_) (fun _ _ _ _ _ => pg_name (i := 1) scView.nd rfl (Or.inl rfl))) (congrArg PyData.list (labs_data fun x hx => (hlab x hx).2.2)))) (by omega)))
      intro s0 H00 C cl fp
      exact d_at (n := 0) (d_var 1) (hlab x hx).2.1 (by rw [(hlab x hx).1]; decide)
  -- one item
  obtain ⟨tt, tl⟩ := told_len hit
  by_cases hs : (eqS (at' it 0) "star" || hasV 3 (at' it 1)) = true
  · refine .inl ⟨ld_end (sd_if (k := true) (td_w (WD.cast (wd_or (k := eqS (at' it 0) "star") (m := hasV 3 (at' it 1)) (td_cmp (o_eqS hr.units) (d_at (n := 0) (d_var 1) tt (Nat.lt_of_lt_of_le (by decide) tl)) (d_str _) ⟨_, rfl, rfl⟩) fun h => wd_or1 (td_val (d_call cH hr (by decide) (ad_cons (d_at (n := 0) (d_var 1) tt (by rw [(told_rest hit h).1]; decide)) ad_nil) (FV_of (told_rest hit h).2.2.1 (okS_at hok2 1))))) hs)) (fun _ => ld_end (sd_ret (d_bl false))) fun e => by cases e), hs⟩
  · have hs' : (eqS (at' it 0) "star" || hasV 3 (at' it 1)) = false := by simpa using hs
    refine .inr ⟨ld_cons (sd_if (k := false) (td_w (WD.cast (wd_or (k := eqS (at' it 0) "star") (m := hasV 3 (at' it 1)) (td_cmp (o_eqS hr.units) (d_at (n := 0) (d_var 1) tt (Nat.lt_of_lt_of_le (by decide) tl)) (d_str _) ⟨_, rfl, rfl⟩) fun h => wd_or1 (td_val (d_call cH hr (by decide) (ad_cons (d_at (n := 0) (d_var 1) tt (by rw [(told_rest hit h).1]; decide)) ad_nil) (FV_of (told_rest hit h).2.2.1 (okS_at hok2 1))))) hs')) (fun e => by cases e) fun _ => ld_nil) ld_nil, hs'⟩
end
end K04

namespace K04
open PySem PySem.Spec PyProof.Rows L2 My
abbrev sNym : Stmt := top 38
abbrev sWorthsL : Stmt := top 39
abbrev sNyms : Stmt := top 40
abbrev sWay : Stmt := top 41
abbrev sCellL : Stmt := top 42
abbrev sCalled : Stmt := top 43
abbrev sToldL : Stmt := top 44
abbrev sAsk : Stmt := top 45
abbrev sOrigin : Stmt := top 46
abbrev sSaid : Stmt := top 47
abbrev sHasW : Stmt := top 48
abbrev sInner : Stmt := top 49
abbrev sBent : Stmt := top 50
abbrev sEdges : Stmt := top 51
abbrev sPathL : Stmt := top 37
abbrev sLaw : Stmt := top 52
section
variable {P : Program} {w : World} {K : PySem.W.Frag} {mg : Str → Option Value} {base : Heap}
structure Bt (w : World) (K : PySem.W.Frag) (mg : Str → Option Value) : Prop extends Bs w K mg where
  repr : mg "repr" = none
  list : mg "list" = none
  range : mg "range" = none
theorem Bt.s3 {mg : Str → Option Value} (G : Bt w K mg) : mg "isinstance" = none ∧ mg "str" = none ∧ mg "len" = none := ⟨G.isi, G.str, G.len⟩
theorem Bt.t3 {mg : Str → Option Value} (G : Bt w K mg) : mg "isinstance" = none ∧ mg "tuple" = none ∧ mg "len" = none := ⟨G.isi, G.tuple, G.len⟩
abbrev nNym : List Str := ["_law_thing_here", "_law_reserved", "_law_sign"]
theorem scNym : FnScope nNym ["_law_thing_here"] (defScope sNym) := ⟨rfl, rfl, rfl, by decide +kernel, rfl, by decide +kernel, by decide +kernel⟩
theorem lit_resv {j1 j2 j3 j4 j5 j6 j7 kk} {p1 p2 p3 p4 p5 p6 p7 p8 : Pos} : Lit (.Tuple [.Constant (.str "select") j1 p1, .Constant (.str "distinct") j2 p2, .Constant (.str "as") j3 p3, .Constant (.str "from") j4 p4, .Constant (.str "where") j5 p5, .Constant (.str "and") j6 p6, .Constant (.str "in") j7 p7] kk p8) (.tuple (resv.map PyData.str)) :=
  .tup (.cons (.str _) (.cons (.str _) (.cons (.str _) (.cons (.str _) (.cons (.str _) (.cons (.str _) (.cons (.str _) .nil))))))) (by decide)
theorem ok_nym {f : Addr} {fd : FuncData} (F : Fun K "_law_is_nym" "_law_is_nym" sNym f fd) (G : Bt w K mg) : FnOk P w K mg base CX0 1 f fd ["_law_thing_here"] (spB namD) := by
  refine Fun.ok1 F scNym fun cdv B out s H E d hr hok => ?_
  refine ld_ifret (k := !lenB d) (td_w (wd_strB1 G.s3 (d_var 0) (d_var 0) hok)) (fun h => ?_) fun h => ?_
  · refine LD.cast (ld_end (sd_ret (d_bl false))) ?_
    have e := nb h
    have e2 : valD d = false := by rw [valD_len, e]; rfl
    have e3 : namD d = false := by
      cases d with
      | str z => show (valS z && _) = false; rw [show valS z = false from e2]; rfl
      | _ => rfl
    rw [e3]
  have h1 := nb' h
  have hs1 : isStr d = true := by unfold lenB at h1; rw [Bool.and_eq_true] at h1; exact h1.1
  refine ld_cons (sd_set 1 (d_lit lit_resv) scNym.nd) ?_
  refine LD.cast (ld_end (sd_ret (d_and (r := d) (m := !decide (My.strOf d ∈ resv)) (d_letters 2 G.all scNym.nd (blkOk_by (N := nNym) (sc := defScope sNym) (by decide +kernel)) (d_var 0) h1 (fun c _ _ _ _ _ => d_var 2) (fun _ _ _ _ _ => pg_name (i := 2) scNym.nd rfl (Or.inl rfl))) fun _ => d_one (d_cmp o_notInS (ED.cast (d_var 0) (isStr_eq hs1)) (d_var 1) ⟨_, resv, rfl, rfl, rfl⟩)))) ?_
  have e2 := valD_len d
  rw [h1, Bool.true_and] at e2
  rw [← e2]
  rw [isStr_eq hs1]
  rfl
abbrev nWorthsL : List Str := ["_law_thing_here", "_law_one", "_law_sign"]
theorem scWorthsL : FnScope nWorthsL ["_law_thing_here"] (defScope sWorthsL) := ⟨rfl, rfl, rfl, by decide +kernel, rfl, by decide +kernel, by decide +kernel⟩
theorem tupD_len {lo hi : Int} {d : PyData} (h : tupD lo hi (fun _ => true) d = true) : isTup d = true ∧ lo ≤ (els d).length ∧ ((els d).length : Int) ≤ hi := let ⟨a, b, c, _⟩ := tupD_els h; ⟨a, b, c⟩
/-- a loop that returns False at the first item without g -/
theorem for_all {X : Cx} {j : Nat} {body : List Stmt} {g : PyData → Bool} {M : PyData → Prop} (rest : Option PyData → List (Option PyData)) (hset : ∀ o it, (rest o).set j (some it) = rest (some it))
    (step : ∀ it, M it → (g it = false → LD X (rest (some it)) body (.ret (.bool false))) ∧ (g it = true → LD X (rest (some it)) body (.nx (rest (some it))))) :
    ∀ (ds : List PyData) (o1 : Option PyData), (∀ it ∈ ds, M it) → (ds.all g = true → ∃ o2, ForD X j body ds (rest o1) (.nx (rest o2))) ∧ (ds.all g = false → ForD X j body ds (rest o1) (.ret (.bool false)))
  | [], o1, _ => ⟨fun _ => ⟨o1, .done⟩, fun h => by cases h⟩
  | it :: ds, o1, hd => by
    have h1 := step it (hd it List.mem_cons_self)
    have ih := for_all rest hset step ds (some it) fun x hx => hd x (List.mem_cons_of_mem _ hx)
    rw [← hset o1 it] at h1
    cases e : g it with
    | false =>
      refine ⟨fun h => ?_, fun _ => .ret (h1.1 e)⟩
      rw [List.all_cons, e] at h; cases h
    | true =>
      have hb := h1.2 e
      rw [hset] at hb
      refine ⟨fun h => ?_, fun h => ?_⟩
      · rw [List.all_cons, e] at h
        obtain ⟨o2, f2⟩ := ih.1 h
        exact ⟨o2, .next (by rw [hset]; exact hb) f2⟩
      · rw [List.all_cons, e] at h
        exact .next (by rw [hset]; exact hb) (ih.2 h)
theorem vals_data {ds : List PyData} (h : ds.all valD = true) : ds = (ds.map My.strOf).map PyData.str ∧ (ds.map My.strOf).all valS = true := by
  induction ds with
  | nil => exact ⟨rfl, rfl⟩
  | cons d ds ih =>
    rw [List.all_cons, Bool.and_eq_true] at h
    obtain ⟨h1, h2⟩ := ih h.2
    cases d with
    | str z => exact ⟨by rw [List.map_cons, List.map_cons]; exact congrArg _ h1, by rw [List.map_cons, List.all_cons, h2, Bool.and_true]; exact h.1⟩
    | _ => exact absurd h.1 (by simp [valD])
theorem ok_worthsL {f : Addr} {fd : FuncData} (F : Fun K "_law_are_worths" "_law_are_worths" sWorthsL f fd) (G : Bt w K mg) : FnOk P w K mg base CX0 1 f fd ["_law_thing_here"] (spB valsD) := by
  refine Fun.ok1 F scWorthsL fun cdv B out s H E d hr hok => ?_
  refine ld_ifret (k := !tupD 1 8 (fun _ => true) d) (td_w (wd_tupB G.t3 (d_var 0) (d_var 0) (d_int 1) (d_int 8))) (fun h => ?_) fun h => ?_
  · refine LD.cast (ld_end (sd_ret (d_bl false))) ?_
    have e := nb h
    have e3 : valsD d = false := by
      cases d with
      | tuple ds =>
        have e' : (decide ((1 : Int) ≤ (ds.length : Int)) && decide ((ds.length : Int) ≤ 8) && ds.all fun _ => true) = false := e
        have ea : (ds.all fun _ => true) = true := by simp
        rw [ea, Bool.and_true, show decide ((1 : Int) ≤ (ds.length : Int)) = decide (1 ≤ ds.length) from dec_le 1 _, show decide ((ds.length : Int) ≤ (8 : Int)) = decide (ds.length ≤ 8) from dec_le _ 8] at e'
        show (decide (1 ≤ ds.length) && decide (ds.length ≤ 8) && ds.all valD && _) = false
        rw [e']; rfl
      | _ => rfl
    rw [e3]
  have h1 := nb' h
  obtain ⟨ht, l1, l8⟩ := tupD_len h1
  have ev : valsD d = ((els d).all valD && ascS ((els d).map My.strOf)) := by
    cases d with
    | tuple ds =>
      show (decide (1 ≤ ds.length) && decide (ds.length ≤ 8) && ds.all valD && ascS (ds.map My.strOf)) = (ds.all valD && ascS (ds.map My.strOf))
      have a1 : (1 : Int) ≤ (ds.length : Int) := l1
      have a2 : (ds.length : Int) ≤ 8 := l8
      rw [decide_eq_true (by omega), decide_eq_true (by omega)]; rfl
    | _ => cases ht
  rw [ev]
  have step := for_all (X := (cxOf CX0 P w K mg base nWorthsL "_law_are_worths" (defScope sWorthsL) f cdv B out s H E).nox) (j := 1) (g := valD) (M := fun x => okS x = true) (body := (match defBody sWorthsL with | _ :: .For _ _ l _ _ :: _ => l | _ => [])) (fun o => [some d, o, none]) (fun _ _ => rfl) (fun it hit => ?_) (els d) none (okS_els hok)
  · cases hall : (els d).all valD with
    | false =>
      rw [Bool.false_and]
      exact ld_end (sd_forT 1 (ED.cast (d_var 0) (els_tup ht)) (step.2 hall) (pg_name (i := 1) scWorthsL.nd rfl (.inl rfl)) PassesOwn.never)
    | true =>
      rw [Bool.true_and]
      obtain ⟨o2, f2⟩ := step.1 hall
      refine ld_cons (sd_forT 1 (ED.cast (d_var 0) (els_tup ht)) f2 (pg_name (i := 1) scWorthsL.nd rfl (.inl rfl)) PassesOwn.never) ?_
      obtain ⟨e1, e2⟩ := vals_data hall
      have ed : d = .tuple (((els d).map My.strOf).map PyData.str) := (els_tup ht).trans (congrArg PyData.tuple e1)
      have hl : ((els d).map My.strOf).length = (els d).length := List.length_map ..
      have d0 : ∀ {q : Pos}, ED (cxOf CX0 P w K mg base nWorthsL "_law_are_worths" (defScope sWorthsL) f cdv B out s H E).nox [some d, o2, none] (.Name "_law_thing_here" q) (.tuple (((els d).map My.strOf).map PyData.str)) := fun {q} => ED.cast (d_var 0) ed
      generalize (els d).map My.strOf = zs at e2 hl d0
      refine LD.cast (ld_end (sd_ret (d_cmp (o_eqD hr.units) (d_listT G.list d0) (d_sortedSet G.sorted G.set (.inr d0) (by omega)) ⟨shaped_listS e2, shaped_listS (zs := srt (dd zs)) ?_, rfl⟩))) ?_
      · rw [List.all_eq_true] at e2 ⊢
        exact fun y hy => e2 y ((mem_dd y zs).mp ((srt_perm (dd zs)).mem_iff.mp hy))
      · rw [eqvL_strs, srt_asc]
  -- one item
  have ex : valD it = (lenB it && (My.strOf it).cps.toList.all letB) := valD_len it
  have test : TD (cxOf CX0 P w K mg base nWorthsL "_law_are_worths" (defScope sWorthsL) f cdv B out s H E).nox [some d, some it, none] (match defBody sWorthsL with | _ :: .For _ _ (.If c _ _ _ :: _) _ _ :: _ => c | _ => .Constant .none 0 ⟨0, 0, 0, 0⟩) (!valD it) := by
    refine td_w (WD.cast (wd_strB (m := !(My.strOf it).cps.toList.all letB) G.s3 (d_var 1) (d_var 1) hit fun hl => wd_or1 (td_not (td_val (d_letters 2 G.all scWorthsL.nd (blkOk_by (N := nWorthsL) (sc := defScope sWorthsL) (by decide +kernel)) (d_var 1) hl (fun c _ _ _ _ _ => d_var 2) (fun _ _ _ _ _ => pg_name (i := 2) scWorthsL.nd rfl (Or.inl rfl)))))) ?_)
    rw [ex]
    cases lenB it <;> cases (My.strOf it).cps.toList.all letB <;> rfl
  refine ⟨fun e => ld_end (sd_if (k := true) (test.cast (by rw [e]; rfl)) (fun _ => ld_end (sd_ret (d_bl false))) fun h => by cases h), fun e => ld_cons (sd_if (k := false) (test.cast (by rw [e]; rfl)) (fun h => by cases h) fun _ => ld_nil) ld_nil⟩
end
end K04

namespace K04
open PySem PySem.Spec PyProof.Rows L2 My
section
variable {P : Program} {w : World} {K : PySem.W.Frag} {mg : Str → Option Value} {base : Heap}
theorem sub_szEs : ∀ {es ds : List PyData}, es.Sublist ds → szEs es ≤ szEs ds
  | _, _, .slnil => Nat.le_refl _
  | _, _, .cons a h => by
    have := sub_szEs h
    show _ ≤ szE _ + 2 + szEs _
    omega
  | _, _, .cons₂ a h => by
    have := sub_szEs h
    show szE _ + 2 + szEs _ ≤ szE _ + 2 + szEs _
    omega
theorem sub_depth {es ds : List PyData} (h : es.Sublist ds) : PyData.depthAll es ≤ PyData.depthAll ds := depth_of fun d hd => depth_mem (h.subset hd)
theorem okS_sub {es ds : List PyData} (h : okS (.tuple ds) = true) (s : es.Sublist ds) : okS (.tuple es) = true := by
  obtain ⟨h1, h2, h3⟩ := okS_iff.mp h
  have h2' : szEs ds + 5 ≤ 1000000 := h2
  have h3' : PyData.depthAll ds + 1 ≤ 50 := h3
  have a1 := sub_szEs s
  have a2 := sub_depth s
  refine okS_iff.mpr ⟨okEs_of fun d hd => okEs_mem h1 d (s.subset hd), ?_, ?_⟩
  · show szEs es + 5 ≤ 1000000
    omega
  · show PyData.depthAll es + 1 ≤ 50
    omega
theorem okS_one {d x : PyData} (h : okS d = true) (hx : x ∈ els d) : okS (.tuple [x]) = true := by
  cases d with
  | tuple ds => exact okS_sub h (List.singleton_sublist.mpr hx)
  | _ => cases hx
theorem valsD_one (x : PyData) : valsD (.tuple [x]) = valD x := by
  show (decide (1 ≤ 1) && decide (1 ≤ 8) && (valD x && true) && true) = valD x
  rw [Bool.and_true, Bool.and_true]; rfl
def FNy : List PyData → Option PyData
  | [d, .int lo, .int hi] => if okS d = true ∧ hi ≤ 1000 then some (.bool (tupD lo hi namD d)) else none
  | _ => none
theorem FNy_inv {ds : List PyData} {r : PyData} (h : FNy ds = some r) : ∃ d lo hi, ds = [d, .int lo, .int hi] ∧ okS d = true ∧ hi ≤ 1000 ∧ r = .bool (tupD lo hi namD d) := by
  match ds, h with
  | [d, .int lo, .int hi], h =>
    by_cases hk : okS d = true ∧ hi ≤ 1000
    · have e : (if okS d = true ∧ hi ≤ 1000 then some (PyData.bool (tupD lo hi namD d)) else none) = some r := h
      rw [if_pos hk] at e
      cases e
      exact ⟨d, lo, hi, rfl, hk.1, hk.2, rfl⟩
    · have e : (if okS d = true ∧ hi ≤ 1000 then some (PyData.bool (tupD lo hi namD d)) else none) = some r := h
      rw [if_neg hk] at e
      cases e
theorem FNy_of {lo hi : Int} {d : PyData} (h : okS d = true) (hh : hi ≤ 1000) : FNy [d, .int lo, .int hi] = some (.bool (tupD lo hi namD d)) := if_pos ⟨h, hh⟩
abbrev nNyms : List Str := ["_law_thing_here", "_law_least_here", "_law_most_here", "_law_one"]
theorem scNyms : FnScope nNyms ["_law_thing_here", "_law_least_here", "_law_most_here"] (defScope sNyms) := ⟨rfl, rfl, rfl, by decide +kernel, rfl, by decide +kernel, by decide +kernel⟩
theorem ok_nyms {f : Addr} {fd : FuncData} (F : Fun K "_law_are_nyms" "_law_are_nyms" sNyms f fd) (G : Bt w K mg) (cN : CalN P w K mg base 1 "_law_is_nym" (spB namD)) : FnOk P w K mg base CX0 2 f fd ["_law_thing_here", "_law_least_here", "_law_most_here"] (spD FNy) := by
  refine Fun.okD (k := 1) F scNyms (fun ds d h => by obtain ⟨e, a, b, rfl, _⟩ := FNy_inv h; rfl) fun cdv B out s H E ds r hr h0 => ?_
  obtain ⟨d, lo, hi, rfl, hok, hh, rfl⟩ := FNy_inv h0
  refine ld_ifret (k := !tupD lo hi (fun _ => true) d) (td_w (wd_tupB G.t3 (d_var 0) (d_var 0) (d_var 1) (d_var 2))) (fun h => ?_) fun h => ?_
  · refine LD.cast (ld_end (sd_ret (d_bl false))) ?_
    rw [tupD_no (nb h)]
  have h1 := nb' h
  obtain ⟨ht, l1, l2⟩ := tupD_len h1
  rw [tupD_yes h1]
  refine ld_end (sd_ret (d_allT 3 namD G.all scNyms.nd (blkOk_by (N := nNyms) (sc := defScope sNyms) (by decide +kernel)) (ED.cast (d_var 0) (els_tup ht)) (by omega) (fun x hx => ?_) (fun _ _ _ _ _ => pg_name (i := 3) scNyms.nd rfl (Or.inl rfl))))
  intro s0 H00 C cl fp
  exact d_fn cN hr (by decide) (d_var 3) (okS_els hok x hx)
theorem nodup_len (zs : List Str) {n : Nat} (hn : zs.length = n) : decide ((((srt (dd zs)).map PyData.str).length : Int) = (n : Int)) = decide zs.Nodup := by
  rw [dec_cast, List.length_map, (srt_perm _).length_eq, ← hn]
  apply Bool.eq_iff_iff.mpr
  rw [decide_eq_true_eq, decide_eq_true_eq]
  exact dd_len zs
theorem nams_data {ds : List PyData} (h : ∀ x ∈ ds, namD x = true) : ds = (ds.map My.strOf).map PyData.str := by
  rw [List.map_map]
  conv => lhs; rw [← List.map_id ds]
  exact List.map_congr_left fun x hx => nam_str (h x hx)
theorem scWay : FnScope ["_law_thing_here"] ["_law_thing_here"] (defScope sWay) := ⟨rfl, rfl, rfl, by decide +kernel, rfl, by decide +kernel, by decide +kernel⟩
theorem ok_way {f : Addr} {fd : FuncData} (F : Fun K "_law_is_way" "_law_is_way" sWay f fd) (G : Bt w K mg) (cN : CalN P w K mg base 2 "_law_are_nyms" (spD FNy)) : FnOk P w K mg base CX0 3 f fd ["_law_thing_here"] (spB pathD) := by
  refine Fun.ok1 F scWay fun cdv B out s H E d hr hok => ?_
  refine ld_end (sd_ret (d_and (r := d) (d_call cN hr (by decide) (ad_cons (d_var 0) (ad_cons (d_int 0) (ad_cons (d_int 6) ad_nil))) (FNy_of hok (by decide))) fun h => d_one ?_))
  obtain ⟨ht, l1, l2, hn⟩ := tupD_els h
  have e1 := nams_data hn
  have ed : d = .tuple (((els d).map My.strOf).map PyData.str) := (els_tup ht).trans (congrArg PyData.tuple e1)
  have hl : ((els d).map My.strOf).length = (els d).length := List.length_map ..
  exact d_cmp o_eqI (d_lenL G.len (d_sortedSet (zs := (els d).map My.strOf) G.sorted G.set (.inr (ED.cast (d_var 0) ed)) (by omega))) (d_len (ds := els d) G.len (ED.cast (d_var 0) (els_tup ht))) ⟨_, _, rfl, rfl, (nodup_len _ hl).symm⟩
theorem scCellL : FnScope ["_law_thing_here"] ["_law_thing_here"] (defScope sCellL) := ⟨rfl, rfl, rfl, by decide +kernel, rfl, by decide +kernel, by decide +kernel⟩
theorem ok_cellL {f : Addr} {fd : FuncData} (F : Fun K "_law_is_cell" "_law_is_cell" sCellL f fd) (G : Bt w K mg) (cN : CalN P w K mg base 1 "_law_is_nym" (spB namD)) : FnOk P w K mg base CX0 2 f fd ["_law_thing_here"] (spB colD) := by
  refine Fun.ok1 F scCellL fun cdv B out s H E d hr hok => ?_
  refine ld_ifret (k := !tupN d 2 || !namD (at' d 1)) (td_w (wd_tupN G.t3 (d_var 0) (d_var 0) fun h3 => wd_or1 (td_not (td_val (d_fn cN hr (by decide) (d_at (n := 0) (d_var 0) (tupN_tup h3).1 (by rw [(tupN_tup h3).2]; decide)) (okS_at hok 1)))))) (fun h => ?_) fun h => ?_
  · refine LD.cast (ld_end (sd_ret (d_bl false))) ?_
    have e : colD d = (tupN d 2 && (nnD (at' d 0) && namD (at' d 1))) := rfl
    rw [e]
    revert h
    cases tupN d 2 <;> cases nnD (at' d 0) <;> cases namD (at' d 1) <;> simp
  have e : tupN d 2 = true ∧ namD (at' d 1) = true := by revert h; cases tupN d 2 <;> cases namD (at' d 1) <;> decide
  obtain ⟨ht, hl⟩ := tupN_tup e.1
  refine LD.cast (ld_end (sd_ret (d_or (d_isN (d_at (n := 0) (d_var 0) ht (by rw [hl]; decide))) fun _ => d_one (d_fn cN hr (by decide) (d_at (n := 0) (d_var 0) ht (by rw [hl]; decide)) (okS_at hok 0))))) ?_
  have e2 : colD d = (tupN d 2 && (nnD (at' d 0) && namD (at' d 1))) := rfl
  rw [e2, e.1, e.2, Bool.true_and, Bool.and_true]
  rfl
abbrev nCalled : List Str := ["_law_thing_here", "_law_depth", "_law_one"]
theorem scCalled : FnScope nCalled ["_law_thing_here", "_law_depth"] (defScope sCalled) := ⟨rfl, rfl, rfl, by decide +kernel, rfl, by decide +kernel, by decide +kernel⟩
theorem okS_E {d : PyData} (h : okS d = true) : okE d = true := (okS_iff.mp h).1
theorem callD_or (k : Nat) (d : PyData) (h : (!tupN d 4 || (!eqS (at' d 0) "call" || decide ((k : Int) = 0))) = true) : callD k d = false := by
  cases k with
  | zero => rfl
  | succ k =>
    show (tupN d 4 && (eqS (at' d 0) "call" && nnD (at' d 1) && namD (at' d 2)) && _) = false
    rw [decide_eq_false (by omega)] at h
    revert h
    cases tupN d 4 <;> cases eqS (at' d 0) "call" <;> simp
theorem called_step {f : Addr} {fd : FuncData} (F : Fun K "_law_is_called" "_law_is_called" sCalled f fd) (G : Bt w K mg) (cN : CalN P w K mg base 1 "_law_is_nym" (spB namD)) (cC : CalN P w K mg base 2 "_law_is_cell" (spB colD)) (cW : CalN P w K mg base 1 "_law_are_worths" (spB valsD))
    (k : Nat) (ih : ∀ j, k = j + 1 → CalG P w K mg base (k + 2) "_law_is_called" (spD (FC j))) : FnG P w K mg base (k + 3) f fd ["_law_thing_here", "_law_depth"] (spD (FC k)) := by
  refine Fun.okDG (k := k + 2) F scCalled (fun ds d h => by obtain ⟨e, rfl, _⟩ := FC_inv h; rfl) fun cdv B out s H E ds r hr hG h0 => ?_
  obtain ⟨d, rfl, hok, rfl⟩ := FC_inv h0
  have iss : ∀ {d : PyData}, okS d = true → (!eqS (.str d.shown) "'call'") = (!eqS d "call") := fun {d} h => by
    rw [← shown_is (w := "call") (t := "'call'") (okS_E h) (by decide +kernel) (by decide +kernel)]
    rfl
  refine ld_ifret (k := !tupN d 4 || (!eqS (at' d 0) "call" || decide ((k : Int) = 0))) (td_w (wd_tupN G.t3 (d_var 0) (d_var 0) fun h4 => wd_or (td_cmp (o_neS hr.units) (d_repr G.repr hG hr.units (d_at (n := 0) (d_var 0) (tupN_tup h4).1 (by rw [(tupN_tup h4).2]; decide)) (okS_repr (okS_at hok 0))) (d_str _) ⟨_, rfl, (iss (okS_at hok 0)).symm⟩) fun _ => wd_or1 (td_cmp o_eqI (d_var 1) (d_int 0) ⟨_, _, rfl, rfl, rfl⟩))) (fun h => ?_) fun h => ?_
  · refine LD.cast (ld_end (sd_ret (d_bl false))) ?_
    rw [callD_or k d h]
  obtain ⟨j, rfl⟩ : ∃ j, k = j + 1 := by
    cases k with
    | zero => simp at h
    | succ j => exact ⟨j, rfl⟩
  have e : tupN d 4 = true ∧ eqS (at' d 0) "call" = true := by revert h; cases tupN d 4 <;> cases eqS (at' d 0) "call" <;> simp
  obtain ⟨ht, hl⟩ := tupN_tup e.1
  refine ld_ifret (k := !(nnD (at' d 1) && namD (at' d 2))) (td_w (WD.cast (wd_or (k := !nnD (at' d 1)) (m := !namD (at' d 2)) (td_not (td_w (wd_or (td_isN (d_at (n := 0) (d_var 0) ht (by rw [hl]; decide))) fun _ => wd_or1 (td_val (d_fn cN hr (by omega) (d_at (n := 0) (d_var 0) ht (by rw [hl]; decide)) (okS_at hok 1)))))) fun _ => wd_or1 (td_not (td_val (d_fn cN hr (by omega) (d_at (n := 0) (d_var 0) ht (by rw [hl]; decide)) (okS_at hok 2))))) ?_)) (fun h => ?_) fun h => ?_
  · cases nnD (at' d 1) <;> cases namD (at' d 2) <;> rfl
  · refine LD.cast (ld_end (sd_ret (d_bl false))) ?_
    have h' := nb h
    show PyData.bool false = .bool (tupN d 4 && (eqS (at' d 0) "call" && nnD (at' d 1) && namD (at' d 2)) && _)
    rw [Bool.and_assoc (eqS _ _), h', Bool.and_false, Bool.and_false]; rfl
  have h2 := nb' h
  have ev : callD (j + 1) d = tupD 1 2 (fun x => colD x || valD x || callD j x) (at' d 3) := by
    show (tupN d 4 && (eqS (at' d 0) "call" && nnD (at' d 1) && namD (at' d 2)) && _) = _
    rw [Bool.and_eq_true] at h2
    rw [e.1, e.2, h2.1, h2.2]; rfl
  rw [ev]
  have e3 : (!tupD 1 2 (fun _ => true) (at' d 3)) = (!isTup (at' d 3) || !decide (((els (at' d 3)).length : Int) ∈ [1, 2])) := by
    cases hq : at' d 3 with
    | tuple ts =>
      show (!(decide ((1 : Int) ≤ (ts.length : Int)) && decide ((ts.length : Int) ≤ 2) && ts.all fun _ => true)) = (false || !decide ((ts.length : Int) ∈ [1, 2]))
      have ea : (ts.all fun _ => true) = true := by simp
      rw [ea, Bool.and_true, Bool.false_or]
      congr 1
      apply Bool.eq_iff_iff.mpr
      rw [Bool.and_eq_true, decide_eq_true_eq, decide_eq_true_eq, decide_eq_true_eq, List.mem_cons, List.mem_singleton]
      omega
    | _ => rfl
  refine ld_ifret (k := !tupD 1 2 (fun _ => true) (at' d 3)) (td_w (WD.cast (wd_or (k := !isTup (at' d 3)) (m := !decide (((els (at' d 3)).length : Int) ∈ [1, 2])) (td_not (td_val (d_isTup G.isi G.tuple (d_at (n := 0) (d_var 0) ht (by rw [hl]; decide))))) fun h => wd_or1 (td_cmp o_notInI (d_len (ds := els (at' d 3)) G.len (ED.cast (d_at (n := 0) (d_var 0) ht (by rw [hl]; decide)) (els_tup (nb' h)))) (d_lit (.tup (.cons (.int 1) (.cons (.int 2) .nil)) (by decide))) ⟨_, [1, 2], rfl, rfl, rfl⟩)) e3.symm)) (fun h => ?_) fun h => ?_
  · refine LD.cast (ld_end (sd_ret (d_bl false))) ?_
    rw [tupD_no (nb h)]
  have h3 := nb' h
  obtain ⟨ht3, l1, l2⟩ := tupD_len h3
  rw [tupD_yes h3]
  have cI := ih j rfl
  have step := for_all (X := (cxOf CX0 P w K mg base nCalled "_law_is_called" (defScope sCalled) f cdv B out s H E).nox) (j := 2) (g := fun x => colD x || valD x || callD j x) (M := fun x => okS x = true ∧ okS (.tuple [x]) = true) (body := (match defBody sCalled with | _ :: _ :: _ :: .For _ _ l _ _ :: _ => l | _ => [])) (fun o => [some d, some (.int ((j + 1 : Nat) : Int)), o]) (fun _ _ => rfl) (fun it hit => ?_) (els (at' d 3)) none (fun x hx => ⟨okS_els (okS_at hok 3) x hx, okS_one (okS_at hok 3) hx⟩)
  · cases hall : (els (at' d 3)).all (fun x => colD x || valD x || callD j x) with
    | false => exact ld_end (sd_forT 2 (ED.cast (d_at (n := 0) (d_var 0) ht (by rw [hl]; decide)) (els_tup ht3)) (step.2 hall) (pg_name (i := 2) scCalled.nd rfl (.inl rfl)) PassesOwn.never)
    | true =>
      obtain ⟨o2, f2⟩ := step.1 hall
      exact ld_cons (sd_forT 2 (ED.cast (d_at (n := 0) (d_var 0) ht (by rw [hl]; decide)) (els_tup ht3)) f2 (pg_name (i := 2) scCalled.nd rfl (.inl rfl)) PassesOwn.never) (ld_end (sd_ret (d_bl true)))
  have test : TD (cxOf CX0 P w K mg base nCalled "_law_is_called" (defScope sCalled) f cdv B out s H E).nox [some d, some (.int ((j + 1 : Nat) : Int)), some it] (match defBody sCalled with | _ :: _ :: _ :: .For _ _ (.If c _ _ _ :: _) _ _ :: _ => c | _ => .Constant .none 0 ⟨0, 0, 0, 0⟩) (!(colD it || valD it || callD j it)) := by
    refine td_w (WD.cast (wd_and (k := !colD it) (m := !valD it && !callD j it) (td_not (td_val (d_fn cC hr (by omega) (d_var 2) hit.1))) fun _ => wd_and (k := !valD it) (m := !callD j it) (td_not (td_val (ED.cast (d_fn cW hr (by omega) (d_tup (ad_cons (d_var 2) ad_nil) (show 1 ≤ 1000 by decide)) hit.2) (congrArg PyData.bool (valsD_one it))))) fun _ => wd_and1 (td_not (td_val (d_callG cI hr hG (Nat.le_refl _) (ad_cons (d_var 2) (ad_cons (d_subI (i := ((j + 1 : Nat) : Int)) (j := 1) (d_var 1) (d_int 1)) ad_nil)) ?_)))) ?_)
    · have e2 : ((j + 1 : Nat) : Int) - 1 = (j : Int) := by omega
      rw [e2]
      exact FC_of hit.1
    · cases colD it <;> cases valD it <;> cases callD j it <;> rfl
  exact ⟨fun e => ld_end (sd_if (k := true) (TD.cast test (by rw [e]; rfl)) (fun _ => ld_end (sd_ret (d_bl false))) fun h => by cases h), fun e => ld_cons (sd_if (k := false) (TD.cast test (by rw [e]; rfl)) (fun h => by cases h) fun _ => ld_nil) ld_nil⟩
theorem ok_called {f : Addr} {fd : FuncData} (F : Fun K "_law_is_called" "_law_is_called" sCalled f fd) (bd : Binds K fd ["_law_thing_here", "_law_depth"] []) (hm : mg "_law_is_called" = some (.ref f)) (G : Bt w K mg) (cN : CalN P w K mg base 1 "_law_is_nym" (spB namD)) (cC : CalN P w K mg base 2 "_law_is_cell" (spB colD)) (cW : CalN P w K mg base 1 "_law_are_worths" (spB valsD)) (k : Nat) : FnG P w K mg base (k + 3) f fd ["_law_thing_here", "_law_depth"] (spD (FC k)) := by
  induction k with
  | zero => exact called_step F G cN cC cW 0 fun j e => by cases e
  | succ k ih => exact called_step F G cN cC cW (k + 1) fun j e => by cases e; exact ⟨f, fd, _, ih, hm, F.kp, bd⟩
end
end K04

namespace K04
open PySem PySem.Spec PyProof.Rows L2 My
section
variable {P : Program} {w : World} {K : PySem.W.Frag} {mg : Str → Option Value} {base : Heap}
theorem scToldL : FnScope ["_law_thing_here"] ["_law_thing_here"] (defScope sToldL) := ⟨rfl, rfl, rfl, by decide +kernel, rfl, by decide +kernel, by decide +kernel⟩
theorem eqS_str {d : PyData} {z : Str} (h : isStr d = false) : eqS d z = false := by cases d <;> first | rfl | cases h
theorem eqS_two {d : PyData} {z y : Str} (h : eqS d z = true) (n : z ≠ y) : eqS d y = false := by
  cases d with
  | str x =>
    have e : x = z := of_decide_eq_true h
    exact decide_eq_false fun q => n (e.symm.trans q)
  | _ => cases h
theorem told_no {d : PyData} (h : isTup d = false ∨ (els d).length < 2 ∨ isStr (at' d 0) = false) : toldD d = false := by
  have hp : isTup d = false ∨ (els d).length < 2 → My.pairD d = false ∧ tupN d 3 = false := fun h => by
    unfold My.pairD tupN
    rcases h with h | h
    · rw [h]; exact ⟨rfl, rfl⟩
    · rw [decide_eq_false (by omega), decide_eq_false (by omega), Bool.and_false]; exact ⟨rfl, rfl⟩
  unfold toldD
  rcases h with h | h | h
  · rw [if_neg (by rw [(hp (.inl h)).1]; decide), (hp (.inl h)).2]; rfl
  · rw [if_neg (by rw [(hp (.inr h)).1]; decide), (hp (.inr h)).2]; rfl
  · rw [eqS_str h, eqS_str h, eqS_str h]
    split
    · rfl
    · simp
theorem ok_toldL {f : Addr} {fd : FuncData} (F : Fun K "_law_is_told" "_law_is_told" sToldL f fd) (G : Bt w K mg) (cN : CalN P w K mg base 1 "_law_is_nym" (spB namD)) (cC : CalN P w K mg base 2 "_law_is_cell" (spB colD)) (cW : CalN P w K mg base 1 "_law_are_worths" (spB valsD)) (cI : CalG P w K mg base 6 "_law_is_called" (spD (FC 3))) :
    FnG P w K mg base 7 f fd ["_law_thing_here"] (spB toldD) := by
  refine Fun.ok1G F scToldL fun cdv B out s H E d hr hG hok => ?_
  refine ld_ifret (k := !isTup d || (decide (((els d).length : Int) < 2) || !isStr (at' d 0))) (td_w (wd_or (td_not (td_val (d_isTup G.isi G.tuple (d_var 0)))) fun h => wd_or (td_cmp o_lt (d_len (ds := els d) G.len (ED.cast (d_var 0) (els_tup (nb' h)))) (d_int 2) ⟨_, _, rfl, rfl, rfl⟩) fun h2 => wd_or1 (td_not (td_val (d_isStr G.isi G.str (d_at (n := 0) (d_var 0) (nb' h) (by have := of_decide_eq_false h2; exact Nat.lt_of_lt_of_le (by decide) (show 2 ≤ (els d).length by omega)))))))) (fun h => ?_) fun h => ?_
  · refine LD.cast (ld_end (sd_ret (d_bl false))) ?_
    rw [told_no]
    rw [Bool.or_eq_true, Bool.or_eq_true] at h
    rcases h with h | h | h
    · exact .inl (nb h)
    · have := of_decide_eq_true h
      exact .inr (.inl (by omega))
    · exact .inr (.inr (nb h))
  rw [Bool.or_eq_false_iff, Bool.or_eq_false_iff] at h
  have ht := nb' h.1
  have h2 : 2 ≤ (els d).length := by have := of_decide_eq_false h.2.1; omega
  have hl0 : 0 < (els d).length := by omega
  have hl1 : 1 < (els d).length := by omega
  refine ld_ifret (td_cmp (o_eqS hr.units) (d_at (n := 0) (d_var 0) ht hl0) (d_str _) ⟨_, rfl, rfl⟩) (fun hs => ?_) fun hs => ?_
  · refine LD.cast (ld_end (sd_ret (d_and (r := d) (k := decide ((els d).length = 2)) (d_cmp o_eqI (d_len (ds := els d) G.len (ED.cast (d_var 0) (els_tup ht))) (d_int 2) ⟨_, _, rfl, rfl, (dec_cast _ 2).symm⟩) fun _ => d_one (d_fn cN hr (by decide) (d_at (n := 0) (d_var 0) ht hl1) (okS_at hok 1))))) ?_
    unfold toldD
    have ep : My.pairD d = decide ((els d).length = 2) := by unfold My.pairD tupN; rw [ht]; rfl
    rw [ep]
    by_cases q : (els d).length = 2
    · rw [decide_eq_true q, if_pos rfl, hs]
    · rw [decide_eq_false q, if_neg (by decide), eqS_two hs (by decide), eqS_two hs (by decide), if_neg (by decide), Bool.false_and, Bool.false_and, Bool.and_false]
  have ev : toldD d = (tupN d 3 && namD (at' d 2) && (if eqS (at' d 0) "column" then colD (at' d 1) else eqS (at' d 0) "term" && (valD (at' d 1) || callD 3 (at' d 1)))) := by
    unfold toldD
    have ep : My.pairD d = decide ((els d).length = 2) := by unfold My.pairD tupN; rw [ht]; rfl
    by_cases q : (els d).length = 2
    · have e3 : tupN d 3 = false := by unfold tupN; rw [ht, q]; rfl
      rw [ep, decide_eq_true q, if_pos rfl, hs, e3]; rfl
    · rw [ep, decide_eq_false q, if_neg (by decide)]
  rw [ev]
  have e3 : tupN d 3 = decide ((els d).length = 3) := by unfold tupN; rw [ht]; rfl
  refine ld_ifret (k := !decide ((els d).length = 3) || !namD (at' d 2)) (td_w (wd_or (td_cmp o_neI (d_len (ds := els d) G.len (ED.cast (d_var 0) (els_tup ht))) (d_int 3) ⟨_, _, rfl, rfl, congrArg Bool.not (dec_cast _ 3).symm⟩) fun h3 => wd_or1 (td_not (td_val (d_fn cN hr (by decide) (d_at (n := 0) (d_var 0) ht (by rw [of_decide_eq_true (nb' h3)]; decide)) (okS_at hok 2)))))) (fun h => ?_) fun h => ?_
  · refine LD.cast (ld_end (sd_ret (d_bl false))) ?_
    have e : (tupN d 3 && namD (at' d 2)) = false := by rw [e3]; revert h; cases decide ((els d).length = 3) <;> cases namD (at' d 2) <;> decide
    rw [e]; rfl
  have e : (tupN d 3 && namD (at' d 2)) = true := by rw [e3]; revert h; cases decide ((els d).length = 3) <;> cases namD (at' d 2) <;> decide
  rw [e, Bool.true_and]
  rw [Bool.and_eq_true] at e
  refine ld_ifret (td_cmp (o_eqS hr.units) (d_at (n := 0) (d_var 0) ht hl0) (d_str _) ⟨_, rfl, rfl⟩) (fun h => ?_) fun h => ?_
  · refine LD.cast (ld_end (sd_ret (d_fn cC hr (by decide) (d_at (n := 0) (d_var 0) ht hl1) (okS_at hok 1)))) ?_
    rw [if_pos h]
  rw [if_neg (by rw [h]; decide)]
  have t3 := tup3 e.1
  have hm1 : at' d 1 ∈ els d := List.mem_of_getElem? (at_get hl1)
  have sl : ED (cxOf CX0 P w K mg base ["_law_thing_here"] "_law_is_told" (defScope sToldL) f cdv B out s H E).nox (startD ["_law_thing_here"] [d]) (match defBody sToldL with | _ :: _ :: _ :: _ :: .Return (some (.BoolOp _ (_ :: .BoolOp _ (.Call _ (e :: _) _ _ :: _) _ :: _) _)) _ :: _ => e | _ => .Constant .none 0 ⟨0, 0, 0, 0⟩) (.tuple [at' d 1]) := ED.cast (d_sl2 (ED.cast (d_var 0) t3) (d_int 1) (d_int 2)) rfl
  refine ld_end (sd_ret (d_and (r := d) (d_cmp (o_eqS hr.units) (d_at (n := 0) (d_var 0) ht hl0) (d_str _) ⟨_, rfl, rfl⟩) fun _ => d_one (d_or (ED.cast (d_fn cW hr (by decide) sl (okS_one hok hm1)) (congrArg PyData.bool (valsD_one _))) fun _ => d_one (d_callG cI hr hG (by decide) (ad_cons (d_at (n := 0) (d_var 0) ht hl1) (ad_cons (d_int 3) ad_nil)) (FC_of (okS_at hok 1))))))
theorem scAsk : FnScope ["_law_thing_here"] ["_law_thing_here"] (defScope sAsk) := ⟨rfl, rfl, rfl, by decide +kernel, rfl, by decide +kernel, by decide +kernel⟩
theorem ok_ask {f : Addr} {fd : FuncData} (F : Fun K "_law_is_ask" "_law_is_ask" sAsk f fd) (G : Bt w K mg) (cC : CalN P w K mg base 2 "_law_is_cell" (spB colD)) (cW : CalN P w K mg base 1 "_law_are_worths" (spB valsD)) : FnG P w K mg base 3 f fd ["_law_thing_here"] (spB condD) := by
  refine Fun.ok1G F scAsk fun cdv B out s H E d hr hG hok => ?_
  refine ld_ifret (k := !tupN d 3 || !colD (at' d 1)) (td_w (wd_tupN G.t3 (d_var 0) (d_var 0) fun h3 => wd_or1 (td_not (td_val (d_fn cC hr (by decide) (d_at (n := 0) (d_var 0) (tupN_tup h3).1 (by rw [(tupN_tup h3).2]; decide)) (okS_at hok 1)))))) (fun h => ?_) fun h => ?_
  · refine LD.cast (ld_end (sd_ret (d_bl false))) ?_
    have e : (tupN d 3 && colD (at' d 1)) = false := by revert h; cases tupN d 3 <;> cases colD (at' d 1) <;> decide
    unfold condD
    rw [e]; rfl
  have e : (tupN d 3 && colD (at' d 1)) = true := by revert h; cases tupN d 3 <;> cases colD (at' d 1) <;> decide
  have ev : condD d = (if eqS (at' d 0) "equal" then colD (at' d 2) else eqS (at' d 0) "in" && valsD (at' d 2)) := by
    unfold condD
    rw [e, Bool.true_and]
  rw [ev]
  rw [Bool.and_eq_true] at e
  obtain ⟨ht, hl⟩ := tupN_tup e.1
  have is1 : eqS (.str (at' d 0).shown) "'equal'" = eqS (at' d 0) "equal" := shown_is (okS_E (okS_at hok 0)) (by decide +kernel) (by decide +kernel)
  have is2 : eqS (.str (at' d 0).shown) "'in'" = eqS (at' d 0) "in" := shown_is (okS_E (okS_at hok 0)) (by decide +kernel) (by decide +kernel)
  refine ld_ifret (k := eqS (at' d 0) "equal") (td_cmp (o_eqS hr.units) (d_repr G.repr hG hr.units (d_at (n := 0) (d_var 0) ht (by rw [hl]; decide)) (okS_repr (okS_at hok 0))) (d_str _) ⟨_, rfl, is1.symm⟩) (fun h => ?_) fun h => ?_
  · refine LD.cast (ld_end (sd_ret (d_fn cC hr (by decide) (d_at (n := 0) (d_var 0) ht (by rw [hl]; decide)) (okS_at hok 2)))) ?_
    rw [if_pos h]
  rw [if_neg (by rw [h]; decide)]
  exact ld_end (sd_ret (d_and (r := d) (k := eqS (at' d 0) "in") (d_cmp (o_eqS hr.units) (d_repr G.repr hG hr.units (d_at (n := 0) (d_var 0) ht (by rw [hl]; decide)) (okS_repr (okS_at hok 0))) (d_str _) ⟨_, rfl, is2.symm⟩) fun _ => d_one (d_fn cW hr (by decide) (d_at (n := 0) (d_var 0) ht (by rw [hl]; decide)) (okS_at hok 2))))
theorem scOrigin : FnScope ["_law_thing_here"] ["_law_thing_here"] (defScope sOrigin) := ⟨rfl, rfl, rfl, by decide +kernel, rfl, by decide +kernel, by decide +kernel⟩
theorem ok_origin {f : Addr} {fd : FuncData} (F : Fun K "_law_is_origin" "_law_is_origin" sOrigin f fd) (G : Bt w K mg) (cN : CalN P w K mg base 1 "_law_is_nym" (spB namD)) (cC : CalN P w K mg base 2 "_law_is_cell" (spB colD)) : FnOk P w K mg base CX0 3 f fd ["_law_thing_here"] (spB srcD) := by
  refine Fun.ok1 F scOrigin fun cdv B out s H E d hr hok => ?_
  refine ld_ifret (k := !tupN d 3) (td_w (wd_tupN1 (n := 3) G.t3 (d_var 0) (d_var 0))) (fun h => ?_) fun h => ?_
  · refine LD.cast (ld_end (sd_ret (d_bl false))) ?_
    unfold srcD
    rw [nb h]; rfl
  have h3 := nb' h
  have t3 := tup3 h3
  obtain ⟨ht, hl⟩ := tupN_tup h3
  have ok2 : okS (.tuple [at' d 0, at' d 1]) = true := okS_sub (ds := [at' d 0, at' d 1, at' d 2]) (by rw [← t3]; exact hok) (.cons₂ _ (.cons₂ _ (.cons _ .slnil)))
  have sl : ED (cxOf CX0 P w K mg base ["_law_thing_here"] "_law_is_origin" (defScope sOrigin) f cdv B out s H E).nox (startD ["_law_thing_here"] [d]) (match defBody sOrigin with | _ :: .Return (some (.BoolOp _ (.Call _ (e :: _) _ _ :: _) _)) _ :: _ => e | _ => .Constant .none 0 ⟨0, 0, 0, 0⟩) (.tuple [at' d 0, at' d 1]) := ED.cast (d_slTo (ED.cast (d_var 0) t3) (d_int 2)) rfl
  refine LD.cast (ld_end (sd_ret (d_and (r := d) (d_fn cC hr (by decide) sl ok2) fun _ => d_one (d_fn cN hr (by decide) (d_at (n := 0) (d_var 0) ht (by rw [hl]; decide)) (okS_at hok 2))))) ?_
  unfold srcD
  rw [h3]
  rfl
abbrev nHasW : List Str := ["_law_term_here", "_law_one"]
theorem scHasW : FnScope nHasW ["_law_term_here"] (defScope sHasW) := ⟨rfl, rfl, rfl, by decide +kernel, rfl, by decide +kernel, by decide +kernel⟩
theorem hasW_step {f : Addr} {fd : FuncData} (F : Fun K "_law_has_worth" "_law_has_worth" sHasW f fd) (G : Bt w K mg) (k : Nat) (ih : ∀ j, k = j + 1 → CalN P w K mg base k "_law_has_worth" (spD (FV j))) : FnOk P w K mg base CX0 (k + 1) f fd ["_law_term_here"] (spD (FV k)) := by
  refine Fun.okD (k := k) F scHasW (fun ds d h => by obtain ⟨e, rfl, _⟩ := FV_inv h; rfl) fun cdv B out s H E ds r hr h0 => ?_
  obtain ⟨d, rfl, ht, ok, rfl⟩ := FV_inv h0
  refine ld_ifret (td_val (d_isStr G.isi G.str (d_var 0))) (fun h => ?_) fun h => ?_
  · refine LD.cast (ld_end (sd_ret (d_bl true))) ?_
    rw [hasV_str h]
  obtain ⟨hT, hc⟩ := term_cases ht h
  rcases hc with hc | ⟨j, rfl, l4, htt⟩
  · have hp : My.pairD d = true := by unfold My.pairD tupN; rw [hT, hc]; rfl
    refine LD.cast (ld_end (sd_ret (d_and (r := d) (k := false) (m := false) (d_cmp o_eqI (d_len (ds := els d) G.len (ED.cast (d_var 0) (els_tup hT))) (d_int 4) ⟨_, _, rfl, rfl, by rw [hc]; rfl⟩) fun e => by cases e))) ?_
    rw [hasV_pair h hp]; rfl
  · have hp : My.pairD d = false := by unfold My.pairD tupN; rw [hT, l4]; rfl
    rw [hasV_call h hp]
    obtain ⟨ht3, _, l2, hin⟩ := tupD_els htt
    have l3 : (els (at' d 3)).length ≤ 1000 := by omega
    refine LD.cast (ld_end (sd_ret (d_and (r := d) (k := true) (d_cmp o_eqI (d_len (ds := els d) G.len (ED.cast (d_var 0) (els_tup hT))) (d_int 4) ⟨_, _, rfl, rfl, by rw [l4]; rfl⟩) fun _ => d_one (d_anyT 1 (hasV j) G.any scHasW.nd (blkOk_by (N := nHasW) (sc := defScope sHasW) (by decide +kernel)) (ED.cast (d_at (n := 0) (d_var 0) hT (by rw [l4]; decide)) (els_tup ht3)) l3 (fun x hx => ?_) (fun _ _ _ _ _ => pg_name (i := 1) scHasW.nd rfl (Or.inl rfl)))))) ?_
    · intro s0 H00 C cl fp
      exact d_call (ih j rfl) hr (Nat.le_refl _) (ad_cons (d_var 1) ad_nil) (FV_of (hin x hx) (okS_els (okS_at ok 3) x hx))
    · rw [Bool.true_and]
theorem ok_hasW {f : Addr} {fd : FuncData} (F : Fun K "_law_has_worth" "_law_has_worth" sHasW f fd) (bd : Binds K fd ["_law_term_here"] []) (hm : mg "_law_has_worth" = some (.ref f)) (G : Bt w K mg) (k : Nat) : FnOk P w K mg base CX0 (k + 1) f fd ["_law_term_here"] (spD (FV k)) := by
  induction k with
  | zero => exact hasW_step F G 0 fun j e => by cases e
  | succ k ih => exact hasW_step F G (k + 1) fun j e => by cases e; exact ⟨f, fd, _, ih, hm, F.kp, bd⟩
abbrev nSaid : List Str := ["_law_thing_here", "_law_labels", "_law_part", "_law_one"]
theorem scSaid : FnScope nSaid ["_law_thing_here"] (defScope sSaid) := ⟨rfl, rfl, rfl, by decide +kernel, rfl, by decide +kernel, by decide +kernel⟩
theorem tupD_and (lo hi : Int) (f : PyData → Bool) (d : PyData) : tupD lo hi f d = (isTup d && (decide (lo ≤ ((els d).length : Int)) && decide (((els d).length : Int) ≤ hi)) && (els d).all f) := by
  cases d <;> rfl
theorem ok_said {f : Addr} {fd : FuncData} (F : Fun K "_law_is_said" "_law_is_said" sSaid f fd) (G : Bt w K mg) (cT : CalG P w K mg base 7 "_law_is_told" (spB toldD)) (cA : CalG P w K mg base 3 "_law_is_ask" (spB condD)) (cO : CalN P w K mg base 3 "_law_is_origin" (spB srcD)) :
    FnG P w K mg base 8 f fd ["_law_thing_here"] (spB stD) := by
  refine Fun.ok1G F scSaid fun cdv B out s H E d hr hG hok => ?_
  refine ld_ifret (k := !tupN d 4 || !isBoo (at' d 0)) (td_w (wd_tupN G.t3 (d_var 0) (d_var 0) fun h4 => wd_or1 (td_not (td_val (d_isBool G.isi G.bool (d_at (n := 0) (d_var 0) (tupN_tup h4).1 (by rw [(tupN_tup h4).2]; decide))))))) (fun h => ?_) fun h => ?_
  · refine LD.cast (ld_end (sd_ret (d_bl false))) ?_
    unfold stD
    revert h
    cases tupN d 4 <;> cases isBoo (at' d 0) <;> simp
  have e : tupN d 4 = true ∧ isBoo (at' d 0) = true := by revert h; cases tupN d 4 <;> cases isBoo (at' d 0) <;> simp
  obtain ⟨ht, hl⟩ := tupN_tup e.1
  have t4 := tup4 e.1
  have ev : stD d = (tupD 1 8 toldD (at' d 1) && tupD 1 4 srcD (at' d 2) && decide (labs (at' d 2) 2).Nodup && tupD 0 8 condD (at' d 3)) := by
    unfold stD
    rw [e.1, e.2, Bool.true_and, Bool.true_and]
  rw [ev, tupD_and, tupD_and, tupD_and]
  have sl : ED (cxOf CX0 P w K mg base nSaid "_law_is_said" (defScope sSaid) f cdv B out s H E).nox (startD nSaid [d]) (match defBody sSaid with | _ :: .If (.BoolOp _ (.UnaryOp _ (.Call _ (.ListComp _ (g :: _) _ _ :: _) _ _) _ :: _) _) _ _ _ :: _ => g.iter | _ => .Constant .none 0 ⟨0, 0, 0, 0⟩) (.tuple [at' d 1, at' d 2, at' d 3]) := ED.cast (d_slFrom (ED.cast (d_var 0) t4) (d_int 1)) rfl
  have hall3 : ([at' d 1, at' d 2, at' d 3].all isTup) = (isTup (at' d 1) && isTup (at' d 2) && isTup (at' d 3)) := by
    show (isTup (at' d 1) && (isTup (at' d 2) && (isTup (at' d 3) && true))) = _
    rw [Bool.and_true, Bool.and_assoc]
  have dlen : ∀ {x : PyData} {i : Nat} (_ : isTup (at' d i) = true), (at' d i) = .tuple (els (at' d i)) := fun h => els_tup h
  -- lengths
  refine ld_ifret (k := !(isTup (at' d 1) && isTup (at' d 2) && isTup (at' d 3)) || !(decide ((1 : Int) ≤ ((els (at' d 1)).length : Int)) && decide (((els (at' d 1)).length : Int) ≤ 8))) (td_w (wd_or (td_not (td_val (ED.cast (d_allT 2 isTup G.all scSaid.nd (blkOk_by (N := nSaid) (sc := defScope sSaid) (by decide +kernel)) sl (show 3 ≤ 1000 by decide) (fun x hx => fun s0 H00 C cl fp => d_isTup G.isi G.tuple (d_var 2)) (fun _ _ _ _ _ => pg_name (i := 2) scSaid.nd rfl (Or.inl rfl))) (congrArg PyData.bool hall3)))) fun h => wd_or1 (td_not (td_btw (d_int 1) (d_len (ds := els (at' d 1)) G.len (ED.cast (d_at (n := 0) (d_var 0) ht (by rw [hl]; decide)) (els_tup (by have := nb' h; rw [Bool.and_eq_true, Bool.and_eq_true] at this; exact this.1.1)))) fun _ => d_int 8)))) (fun h => ?_) fun h => ?_
  · refine LD.cast (ld_end (sd_ret (d_bl false))) ?_
    revert h
    cases isTup (at' d 1) <;> cases isTup (at' d 2) <;> cases isTup (at' d 3) <;> cases decide ((1 : Int) ≤ ((els (at' d 1)).length : Int)) <;> cases decide (((els (at' d 1)).length : Int) ≤ 8) <;> simp
  rw [Bool.or_eq_false_iff] at h
  have h13 := nb' h.1
  rw [Bool.and_eq_true, Bool.and_eq_true] at h13
  obtain ⟨⟨i1, i2⟩, i3⟩ := h13
  have h18 := nb' h.2
  rw [i1, i2, i3, h18, Bool.true_and, Bool.true_and, Bool.true_and, Bool.true_and]
  rw [Bool.and_eq_true, decide_eq_true_eq, decide_eq_true_eq] at h18
  have h0 : decide ((0 : Int) ≤ ((els (at' d 3)).length : Int)) = true := decide_eq_true (by omega)
  rw [h0, Bool.true_and]
  refine ld_ifret (k := !(decide ((1 : Int) ≤ ((els (at' d 2)).length : Int)) && decide (((els (at' d 2)).length : Int) ≤ 4)) || decide ((8 : Int) < ((els (at' d 3)).length : Int))) (td_w (wd_or (td_not (td_btw (d_int 1) (d_len (ds := els (at' d 2)) G.len (ED.cast (d_at (n := 0) (d_var 0) ht (by rw [hl]; decide)) (els_tup i2))) fun _ => d_int 4)) fun _ => wd_or1 (td_cmp o_gt (d_len (ds := els (at' d 3)) G.len (ED.cast (d_at (n := 0) (d_var 0) ht (by rw [hl]; decide)) (els_tup i3))) (d_int 8) ⟨_, _, rfl, rfl, rfl⟩))) (fun h => ?_) fun h => ?_
  · refine LD.cast (ld_end (sd_ret (d_bl false))) ?_
    rw [Bool.or_eq_true] at h
    rcases h with h | h
    · rw [nb h, Bool.false_and, Bool.and_false]; rfl
    · have := of_decide_eq_true h
      rw [decide_eq_false (p := ((els (at' d 3)).length : Int) ≤ 8) (by omega), Bool.false_and, Bool.and_false]
  rw [Bool.or_eq_false_iff] at h
  have h24 := nb' h.1
  have h38 : decide (((els (at' d 3)).length : Int) ≤ 8) = true := decide_eq_true (by have := of_decide_eq_false h.2; omega)
  rw [h24, h38, Bool.true_and, Bool.true_and]
  rw [Bool.and_eq_true, decide_eq_true_eq, decide_eq_true_eq] at h24
  rw [decide_eq_true_eq] at h38
  have n1 : (els (at' d 1)).length ≤ 1000 := by omega
  have n2 : (els (at' d 2)).length ≤ 1000 := by omega
  have n3 : (els (at' d 3)).length ≤ 1000 := by omega
  refine ld_ifret (k := !(els (at' d 1)).all toldD || !(els (at' d 2)).all srcD) (td_w (wd_or (td_not (td_val (d_allT 3 toldD G.all scSaid.nd (blkOk_by (N := nSaid) (sc := defScope sSaid) (by decide +kernel)) (ED.cast (d_at (n := 0) (d_var 0) ht (by rw [hl]; decide)) (els_tup i1)) n1 (fun x hx => fun s0 H00 C cl fp => d_fnG cT hr hG (Nat.le_refl _) (d_var 3) (okS_els (okS_at hok 1) x hx)) (fun _ _ _ _ _ => pg_name (i := 3) scSaid.nd rfl (Or.inl rfl))))) fun _ => wd_or1 (td_not (td_val (d_allT 3 srcD G.all scSaid.nd (blkOk_by (N := nSaid) (sc := defScope sSaid) (by decide +kernel)) (ED.cast (d_at (n := 0) (d_var 0) ht (by rw [hl]; decide)) (els_tup i2)) n2 (fun x hx => fun s0 H00 C cl fp => d_fn cO hr (by decide) (d_var 3) (okS_els (okS_at hok 2) x hx)) (fun _ _ _ _ _ => pg_name (i := 3) scSaid.nd rfl (Or.inl rfl))))))) (fun h => ?_) fun h => ?_
  · refine LD.cast (ld_end (sd_ret (d_bl false))) ?_
    revert h
    cases (els (at' d 1)).all toldD <;> cases (els (at' d 2)).all srcD <;> simp
  rw [Bool.or_eq_false_iff] at h
  have q1 := nb' h.1
  have q2 := nb' h.2
  rw [q1, q2, Bool.true_and, Bool.true_and]
  rw [List.all_eq_true] at q2
  have hlab := labs_data (d := at' d 2) (i := 2) fun x hx => src_lab (q2 x hx)
  have hll : (labs (at' d 2) 2).length = (els (at' d 2)).length := List.length_map ..
  refine ld_cons (SD.cast (sd_lcT 1 3 (fun x => at' x 2) scSaid.nd (blkOk_by (N := nSaid) (sc := defScope sSaid) (by decide +kernel)) (ED.cast (d_at (n := 0) (d_var 0) ht (by rw [hl]; decide)) (els_tup i2)) n2 (fun x hx => fun s0 H00 C cl fp => ?_) (fun _ _ _ _ _ => pg_name (i := 3) scSaid.nd rfl (Or.inl rfl)) (sw_true rfl rfl rfl (by decide +kernel))) (congrArg (fun r => Out.nx (List.set (startD nSaid [d]) 1 (some (PyData.list r)))) hlab)) ?_
  · have hx3 := q2 x hx
    unfold srcD at hx3
    rw [Bool.and_eq_true] at hx3
    obtain ⟨hxt, hxl⟩ := tupN_tup hx3.1
    exact d_at (n := 0) (d_var 3) hxt (by rw [hxl]; decide)
  generalize labs (at' d 2) 2 = zs at hll
  exact ld_end (sd_ret (d_and (r := d) (k := decide zs.Nodup) (d_cmp o_eqI (d_lenL G.len (d_sortedSet (zs := zs) G.sorted G.set (.inl (d_var 1)) (by omega))) (d_lenL (ds := zs.map PyData.str) G.len (d_var 1)) ⟨_, _, rfl, rfl, (nodup_len zs (List.length_map ..).symm).symm⟩) fun _ => d_one (d_allT 3 condD G.all scSaid.nd (blkOk_by (N := nSaid) (sc := defScope sSaid) (by decide +kernel)) (ED.cast (d_at (n := 0) (d_var 0) ht (by rw [hl]; decide)) (els_tup i3)) n3 (fun x hx => fun s0 H00 C cl fp => d_fnG cA hr hG (by decide) (d_var 3) (okS_els (okS_at hok 3) x hx)) (fun _ _ _ _ _ => pg_name (i := 3) scSaid.nd rfl (Or.inl rfl)))))
abbrev nInner : List Str := ["_law_thing_here", "_law_told", "_law_called"]
theorem scInner : FnScope nInner ["_law_thing_here"] (defScope sInner) := ⟨rfl, rfl, rfl, by decide +kernel, rfl, by decide +kernel, by decide +kernel⟩
theorem ok_inner {f : Addr} {fd : FuncData} (F : Fun K "_law_is_inner" "_law_is_inner" sInner f fd) (G : Bt w K mg) (cS : CalG P w K mg base 8 "_law_is_said" (spB stD)) (cH : CalN P w K mg base 4 "_law_has_worth" (spD (FV 3))) : FnG P w K mg base 9 f fd ["_law_thing_here"] (spB viewD) := by
  refine Fun.ok1G F scInner fun cdv B out s H E d hr hG hok => ?_
  have hboo : stD d = true → isTup d = true ∧ (els d).length = 4 ∧ at' d 0 = .bool (truB (at' d 0)) ∧ isTup (at' d 1) = true ∧ ((els (at' d 1)).length : Int) ≤ 8 ∧ ∀ x ∈ els (at' d 1), toldD x = true := fun h => by
    unfold stD at h
    simp only [Bool.and_eq_true] at h
    obtain ⟨a, b⟩ := tupN_tup h.1
    obtain ⟨t1, _, t2, t3⟩ := tupD_els h.2.1.1.1.2
    refine ⟨a, b, ?_, t1, t2, t3⟩
    have hb := h.2.1.1.1.1
    cases e : at' d 0 <;> rw [e] at hb <;> first | rfl | cases hb
  refine ld_ifret (k := !(stD d && !truB (at' d 0))) (td_w (WD.cast (wd_or (k := !stD d) (m := truB (at' d 0)) (td_not (td_val (d_fnG cS hr hG (Nat.le_refl _) (d_var 0) hok))) fun h => wd_or1 (td_val (ED.cast (d_at (n := 0) (d_var 0) (hboo (nb' h)).1 (by rw [(hboo (nb' h)).2.1]; decide)) (hboo (nb' h)).2.2.1))) ?_)) (fun h => ?_) fun h => ?_
  · cases stD d <;> cases truB (at' d 0) <;> rfl
  · refine LD.cast (ld_end (sd_ret (d_bl false))) ?_
    unfold viewD
    rw [nb h]; rfl
  have h1 := nb' h
  have ev : viewD d = ((els (at' d 1)).all (fun it => !(eqS (at' it 0) "star" || hasV 3 (at' it 1))) && decide (labs (at' d 1) 2).Nodup) := by
    unfold viewD
    rw [h1, Bool.true_and]
  rw [ev]
  rw [Bool.and_eq_true] at h1
  obtain ⟨hT, hl, _, ht1, hl8, htold⟩ := hboo h1.1
  have h1000 : (els (at' d 1)).length ≤ 1000 := by omega
  have step := for_all (X := (cxOf CX0 P w K mg base nInner "_law_is_inner" (defScope sInner) f cdv B out s H E).nox) (j := 1) (g := fun it => !(eqS (at' it 0) "star" || hasV 3 (at' it 1))) (M := fun x => toldD x = true ∧ okS x = true) (body := (match defBody sInner with | _ :: .For _ _ l _ _ :: _ => l | _ => [])) (fun o => [some d, o, none]) (fun _ _ => rfl) (fun it hit => ?_) (els (at' d 1)) none (fun x hx => ⟨htold x hx, okS_els (okS_at hok 1) x hx⟩)
  · cases hall : (els (at' d 1)).all (fun it => !(eqS (at' it 0) "star" || hasV 3 (at' it 1))) with
    | false =>
      rw [Bool.false_and]
      exact ld_end (sd_forT 1 (ED.cast (d_at (n := 0) (d_var 0) hT (by rw [hl]; decide)) (els_tup ht1)) (step.2 hall) (pg_name (i := 1) scInner.nd rfl (.inl rfl)) PassesOwn.never)
    | true =>
      rw [Bool.true_and]
      obtain ⟨o2, f2⟩ := step.1 hall
      refine ld_cons (sd_forT 1 (ED.cast (d_at (n := 0) (d_var 0) hT (by rw [hl]; decide)) (els_tup ht1)) f2 (pg_name (i := 1) scInner.nd rfl (.inl rfl)) PassesOwn.never) ?_
      have hlab : ∀ x ∈ els (at' d 1), (els x).length = 3 ∧ isTup x = true ∧ ∃ z, at' x 2 = .str z := fun x hx => by
        have e := List.all_eq_true.mp hall x hx
        have e2 := nb e
        rw [Bool.or_eq_false_iff] at e2
        obtain ⟨a, b, _, c⟩ := told_rest (htold x hx) e2.1
        exact ⟨a, b, c⟩
      have hll : (labs (at' d 1) 2).length = (els (at' d 1)).length := List.length_map ..
      have hl2 := labs_data (d := at' d 1) (i := 2) fun x hx => (hlab x hx).2.2
      refine ld_cons (SD.cast (sd_lcT 2 1 (fun x => at' x 2) scInner.nd (blkOk_by (N := nInner) (sc := defScope sInner) (by decide +kernel)) (ED.cast (d_at (n := 0) (d_var 0) hT (by rw [hl]; decide)) (els_tup ht1)) h1000 (fun x hx => fun s0 H00 C cl fp => d_at (n := 0) (d_var 1) (hlab x hx).2.1 (by rw [(hlab x hx).1]; decide)) (fun _ _ _ _ _ => pg_name (i := 1) scInner.nd rfl (Or.inl rfl)) (sw_true rfl rfl rfl (by decide +kernel))) (congrArg (fun r => Out.nx (List.set [some d, o2, none] 2 (some (PyData.list r)))) hl2)) ?_
      generalize labs (at' d 1) 2 = zs at hll
      exact ld_end (sd_ret (d_cmp o_eqI (d_lenL G.len (d_sortedSet (zs := zs) G.sorted G.set (.inl (d_var 2)) (by omega))) (d_lenL (ds := zs.map PyData.str) G.len (d_var 2)) ⟨_, _, rfl, rfl, (nodup_len zs (List.length_map ..).symm).symm⟩))
  obtain ⟨tt, tl⟩ := told_len hit.1
  have test : TD (cxOf CX0 P w K mg base nInner "_law_is_inner" (defScope sInner) f cdv B out s H E).nox [some d, some it, none] (match defBody sInner with | _ :: .For _ _ (.If c _ _ _ :: _) _ _ :: _ => c | _ => .Constant .none 0 ⟨0, 0, 0, 0⟩) (eqS (at' it 0) "star" || hasV 3 (at' it 1)) :=
    td_w (wd_or (k := eqS (at' it 0) "star") (m := hasV 3 (at' it 1)) (td_cmp (o_eqS hr.units) (d_at (n := 0) (d_var 1) tt (Nat.lt_of_lt_of_le (by decide) tl)) (d_str _) ⟨_, rfl, rfl⟩) fun h => wd_or1 (td_val (d_call cH hr (by decide) (ad_cons (d_at (n := 0) (d_var 1) tt (by rw [(told_rest hit.1 h).1]; decide)) ad_nil) (FV_of (told_rest hit.1 h).2.2.1 (okS_at hit.2 1)))))
  exact ⟨fun e => ld_end (sd_if (k := true) (TD.cast test (nb' e)) (fun _ => ld_end (sd_ret (d_bl false))) fun h => by cases h), fun e => ld_cons (sd_if (k := false) (TD.cast test (nb e)) (fun h => by cases h) fun _ => ld_nil) ld_nil⟩
end
end K04

namespace HT
open PySem PySem.Spec PyProof.Rows
section
variable {prog : Program} {w : World} {A : Around} {E : Value → Shared → Prop} {s : Shared}
theorem sliceApplied_rev {sl : Addr} {vl vu vs : Value} {n : Nat} {Q : Int × Int × Nat → Shared → Prop} (hs : s.heap.IsSliceOf sl vl vu vs) (pl : IsPart vl none) (pu : IsPart vu none) (ps : IsPart vs (some (-1)))
    (h : Q ((n : Int) - 1, -1, n) s) : wpAny (model prog w) A (Builtin.Slice.sliceApplied (.ref sl) (pure (n : Int))) Q E s := by
  obtain ⟨os, hos, hcs, hds⟩ := id hs
  unfold Builtin.Slice.sliceApplied Builtin.Slice.sliceFields
  refine wpAny_bind (wpAny_bind (wpAny_field hos hds (x := vl) rfl (wpAny_bind (wpAny_field hos hds (x := vu) rfl (wpAny_bind (wpAny_field hos hds (x := vs) rfl (wpAny_pure ?_)))))))
  refine wpAny_bind (slicePart_ ps ?_)
  show wpAny _ _ (if ((-1 : Int) == 0) = true then _ else _) _ _ s
  rw [if_neg (by decide)]
  refine wpAny_bind (slicePart_ pl (wpAny_bind (slicePart_ pu (wpAny_bind (wpAny_pure ?_)))))
  show wpAny _ _ (match Builtin.Slice.sliceAdjust none none (-1) (n : Int) with | (lo, hi) => pure (lo, (-1 : Int), Builtin.Slice.slicePlaces lo hi (-1))) _ _ s
  have e1 : Builtin.Slice.sliceAdjust none none (-1) (n : Int) = ((n : Int) - 1, -1) := rfl
  rw [e1]
  show wpAny _ _ (pure (((n : Int) - 1), (-1 : Int), Builtin.Slice.slicePlaces ((n : Int) - 1) (-1) (-1))) _ _ s
  have e2 : Builtin.Slice.slicePlaces ((n : Int) - 1) (-1) (-1) = n := by
    unfold Builtin.Slice.slicePlaces
    rw [if_neg (by decide)]
    by_cases h : (n : Int) - 1 > -1
    · rw [if_pos h, show (- -1 : Int) = 1 by decide, Int.ediv_one]; omega
    · rw [if_neg h]; omega
  rw [e2]
  exact wpAny_pure h
theorem pick_rev (xs : Array Value) : ((List.range xs.size).filterMap fun (k : Nat) => xs[(((xs.size : Int) - 1) + (k : Int) * (-1)).toNat]?).toArray = xs.toList.reverse.toArray := by
  have h := PySem.W.krv_pick xs
  unfold slicePick at h
  rw [PySem.W.krv_bounds] at h
  rw [← h]
  show _ = ((sliceRange ((xs.size : Int) - 1) (-1) (-1)).filterMap (xs[·]?)).toArray
  rw [PySem.W.krv_sliceRange, List.filterMap_map]
  congr 2
  funext k
  show xs[(((xs.size : Int) - 1) + (k : Int) * (-1)).toNat]? = xs[xs.size - 1 - k]?
  congr 1
  omega
theorem getItem_tuple_rev {t sl : Addr} {items : Array Value} {vl vu vs : Value} {Q : Value → Shared → Prop} (ht : IsTup s.heap t items) (hs : s.heap.IsSliceOf sl vl vu vs) (pl : IsPart vl none) (pu : IsPart vu none) (ps : IsPart vs (some (-1)))
    (h : Q (.ref s.heap.objs.size) { s with heap := s.heap.push { cls := .type "tuple", data := .seq items.toList.reverse.toArray } })
    (hsz : items.size ≤ sizeLine) : wpAny (model prog w) A (getItem (.ref t) (.ref sl)) Q E s := by
  have htake : sizeOk (.seq items.toList.reverse.toArray) := by
    show items.toList.reverse.toArray.size ≤ sizeLine
    rw [List.size_toArray, List.length_reverse, Array.length_toList]
    omega
  obtain ⟨os, hos, hcs, hds⟩ := id hs
  have hTs : s.TypeIs (.ref sl) "slice" := ⟨os, hos, hcs⟩
  unfold getItem
  try with_reducible refine wpAny_holding ?_
  first | refine wpAny_bind (wpAny_pure ?_) | skip
  refine wpAny_bind (wpAny_sequenceKey ht.typeIs (by decide) ?_)
  refine wpAny_bind (wpAny_callSpecial?_slot (name := Str.ofString "__getitem__") ht.typeIs PyProof.Rows.slot_tuple_getitem
    (wpAny_call_entry PyProof.Rows.slot_tuple_getitem ht.typeIs entry_tuple_getitem ?_ (args_tuple_getitem _ _)))
  show wpAny _ _ (Builtin.Tuple.tupleItemsOf (.ref t) >>= _) _ _ s
  refine wpAny_bind (tupleItemsOf_ ht ?_)
  refine wpAny_bind (wpAny_typeOf hTs ?_)
  rw [if_pos (by decide)]
  refine wpAny_bind (sliceApplied_rev hs pl pu ps ?_)
  have hno : ¬ ((((items.size : Int) - 1) == 0 && (-1 : Int) == 1 && items.size == items.size) = true) := by
    intro q
    rw [Bool.and_eq_true, Bool.and_eq_true] at q
    exact absurd q.1.2 (by decide)
  show wpAny _ _ (if (((items.size : Int) - 1) == 0 && (-1 : Int) == 1 && items.size == items.size) = true then _ else _) _ _ s
  rw [if_neg hno, pick_rev]
  first
    | exact wpAny_bind (m := Builtin.Tuple.tupleExact _) (wpAny_newObj_type (wpAny_pure ⟨_, rfl, wpAny_pure h⟩) htake)
    | exact wpAny_bind (m := Builtin.Tuple.tupleExact _) (wpAny_newObj_type (wpAny_bind (wpAny_pure (wpAny_pure ⟨_, rfl, wpAny_pure h⟩))) htake)
    | exact wpAny_bind (wpAny_bind (m := Builtin.Tuple.tupleExact _) (wpAny_newObj_type (wpAny_pure (wpAny_pure ⟨_, rfl, wpAny_pure h⟩)) htake))
    | exact wpAny_bind (wpAny_bind (m := Builtin.Tuple.tupleExact _) (wpAny_newObj_type (wpAny_pure ⟨_, rfl, wpAny_pure h⟩) htake))
end
end HT
namespace My
open PySem PySem.Spec PyProof.Rows L2 HT
section
variable {X : Cx}
def tRevT (K : PySem.W.Frag) (te : TE) : TE := fun σ H Q => te σ H fun x H1 => ∃ a xs, x = .ref a ∧ SqT K H1 a xs ∧ ∀ p, H1 p = none → Q (.ref p) (upd H1 p (.tup xs.reverse))
theorem pe_revT {e : Expr} {te : TE} {k : Nat} {p1 p2 p3 pos : Pos} (he : PE X e te) : PE X (.Subscript e (.Slice none none (some (.UnaryOp .USub (.Constant (.int 1) k p1) p2)) p3) pos) (tRevT X.K te) := by
  refine ⟨fun pins s σ H Q I h => ?_⟩
  refine Subscript_ (thn (he.run pins s σ H _ I h) fun v s1 ⟨x, H1, I1, r1, q1⟩ => ?_)
  obtain ⟨a, xs, ex, hx, q⟩ := q1
  subst ex
  cases r1
  have hst : PO X (some (.UnaryOp .USub (.Constant (.int 1) k p1) p2)) (tPart (tUn (rU fun i => .int (-i)) (tC (.int 1)))) := po_some (pe_un un_neg pe_int)
  refine wpAny_Slice (thn (po_none.run pins s1 σ H1 (fun o H2 => o = none ∧ H2 = H1) I1 ⟨rfl, rfl⟩) fun vl s2 ⟨l, H2, I2, pl, el, e2⟩ => ?_)
  subst el e2
  refine thn (po_none.run pins s2 σ H2 (fun o H3 => o = none ∧ H3 = H2) I2 ⟨rfl, rfl⟩) fun vu s3 ⟨u, H3, I3, pu, eu, e3⟩ => ?_
  subst eu e3
  refine thn (hst.run pins s3 σ H3 (fun o H4 => o = some (-1) ∧ H4 = H3) I3 ⟨1, rfl, -1, rfl, rfl, rfl⟩) fun vs s4 ⟨o, H4, I4, ps, eo, e4⟩ => ?_
  subst eo e4
  have I5 : Inv X pins σ H4 { s4 with heap := s4.heap.push { cls := .type "slice", data := .fields #[vl, vu, vs] } } := I4.kept (t' := s4.toks) fun b ob q => Heap.get?_push_of_some _ q
  obtain ⟨its, r, ht, hz⟩ := I5.tuple hx
  have hlen := r.length
  show wpAny (model X.prog X.w) X.A (subscriptTail e (.Slice none none (some (.UnaryOp .USub (.Constant (.int 1) k p1) p2)) p3) (.ref a) (.ref s4.heap.objs.size)) (EP X pins σ Q) X.xe { s4 with heap := s4.heap.push { cls := .type "slice", data := .fields #[vl, vu, vs] } }
  refine tail_any (ops := [.ref a, .ref s4.heap.objs.size]) ht.typeIs (PyProof.Rows.slot_tuple_getitem.lookup) ?_ (by with_unfolding_all rfl)
  refine getItem_tuple_rev ht (Heap.IsSliceOf.new _ vl vu vs) pl pu ps ?_ (by rw [List.size_toArray]; omega)
  refine ⟨.ref _, _, I5.laid (t' := s4.toks) (o := .tup xs.reverse) (fun b ob q => Heap.get?_push_of_some _ q) (Nat.le_refl _) ?_, rfl, q _ (I5.hok.fresh (Nat.le_refl _))⟩
  exact ⟨by rw [List.length_reverse]; exact hz, _, r.reverse, IsTup.new _ _⟩
end
section
variable {X : Cx} {ρ : Rho} {a b c e lo hi : Expr} {d d1 d2 : PyData} {ds ds2 : List PyData} {pos p p1 p2 p3 : Pos}
theorem DGs.rev {S : Addr → Prop} {H : Hp} : ∀ {vs : List V} {ds : List PyData}, DGs S H vs ds → DGs S H vs.reverse ds.reverse
  | _, _, .nil => .nil
  | _, _, .cons h hs => by rw [List.reverse_cons, List.reverse_cons]; exact hs.rev.append (.cons h .nil)
/-- t[::-1] -/
theorem d_revT {k : Nat} (h : ED X ρ e (.tuple ds)) : ED X ρ (.Subscript e (.Slice none none (some (.UnaryOp .USub (.Constant (.int 1) k p1) p2)) p3) pos) (.tuple ds.reverse) := fun S σ H Q sl q =>
  toE (pe_revT pE) (h S σ H _ sl fun v H1 s1 g1 => by
    obtain ⟨a, xs, rfl, ha, hs, sq⟩ := g1.seq (K := X.K)
    exact ⟨a, xs, rfl, sq, fun p hp => q _ _ (s1.trans (same_new hp)) (.tup upd_same (hs.rev.same (same_new hp)))⟩)
/-- t + u -/
theorem d_catT (h : ED X ρ a (.tuple ds)) (h2 : ED X ρ b (.tuple ds2)) (l : ds.length + ds2.length ≤ 10000000) : ED X ρ (.BinOp a .Add b pos) (.tuple (ds ++ ds2)) := fun S σ H Q sl q =>
  e_op op_catA (h S σ H _ sl fun v H1 s1 g1 => h2 S σ H1 _ (sl.same s1) fun u H2 s2 g2 => by
    obtain ⟨a, xs, rfl, ha, hs, sq⟩ := (g1.same s2).seq (K := X.K)
    obtain ⟨b, ys, rfl, hb, ks, tq⟩ := g2.seq (K := X.K)
    have l1 := hs.length
    have l2 := ks.length
    refine ⟨a, b, xs, ys, rfl, rfl, sq, tq, Nat.le_trans (show xs.length + ys.length ≤ 10000000 by omega) (by decide), fun e => ?_, fun _ e => ?_, fun _ _ p hp => ?_⟩
    · subst e
      cases hs
      exact q _ _ (s1.trans s2) (.tup hb ks)
    · subst e
      cases ks
      rw [List.append_nil] at q
      exact q _ _ (s1.trans s2) (.tup ha hs)
    · exact q _ _ ((s1.trans s2).trans (same_new hp)) (.tup upd_same ((hs.append ks).same (same_new hp))))
end
end My

namespace K04
open PySem PySem.Spec PyProof.Rows L2 My
/-! ### how big the data is -/
def Fe (n k : Nat) (d : PyData) : Prop := okE d = true ∧ szE d ≤ n ∧ d.depth ≤ k
def FeL (n k : Nat) (ds : List PyData) : Prop := okEs ds = true ∧ szEs ds ≤ n ∧ PyData.depthAll ds ≤ k
theorem Fe.mono {n k m j : Nat} {d : PyData} (h : Fe n k d) (a : n ≤ m) (b : k ≤ j) : Fe m j d := ⟨h.1, Nat.le_trans h.2.1 a, Nat.le_trans h.2.2 b⟩
theorem FeL.nil {k : Nat} : FeL 0 k [] := ⟨rfl, Nat.le_refl _, Nat.zero_le _⟩
theorem Fe.cons {a b k : Nat} {d : PyData} {ds : List PyData} (h : Fe a k d) (hs : FeL b k ds) : FeL (a + 2 + b) k (d :: ds) := by
  refine ⟨?_, ?_, ?_⟩
  · show (okE d && okEs ds) = true
    rw [h.1, hs.1]; rfl
  · show szE d + 2 + szEs ds ≤ _
    have := h.2.1
    have := hs.2.1
    omega
  · show max (PyData.depth d) (PyData.depthAll ds) ≤ k
    have h1 : PyData.depth d ≤ k := h.2.2
    have := hs.2.2
    omega
theorem FeL.tup {n k : Nat} {ds : List PyData} (h : FeL n k ds) : Fe (n + 5) (k + 1) (.tuple ds) := ⟨h.1, Nat.add_le_add_right h.2.1 5, Nat.succ_le_succ h.2.2⟩
theorem depthAll_le {n : Nat} : ∀ {ds : List PyData}, (∀ d ∈ ds, d.depth ≤ n) → PyData.depthAll ds ≤ n
  | [], _ => Nat.zero_le _
  | d :: ds, h => by
    show max (PyData.depth d) (PyData.depthAll ds) ≤ n
    have h1 : PyData.depth d ≤ n := h d List.mem_cons_self
    have := depthAll_le (ds := ds) fun x hx => h x (List.mem_cons_of_mem _ hx)
    omega
theorem FeL.of {n k m : Nat} : ∀ {ds : List PyData}, ds.length ≤ m → (∀ d ∈ ds, Fe n k d) → FeL (m * (n + 2)) k ds := fun {ds} hl h => by
  refine ⟨okEs_of fun d hd => (h d hd).1, ?_, depthAll_le fun d hd => (h d hd).2.2⟩
  refine Nat.le_trans ?_ (Nat.mul_le_mul_right (n + 2) hl)
  clear hl
  induction ds with
  | nil => exact Nat.zero_le _
  | cons d ds ih =>
    show szE d + 2 + szEs ds ≤ (ds.length + 1) * (n + 2)
    have h1 := (h d List.mem_cons_self).2.1
    have h2 := ih fun x hx => h x (List.mem_cons_of_mem _ hx)
    rw [Nat.succ_mul]
    omega
theorem Fe.okS {n k : Nat} {d : PyData} (h : Fe n k d) (a : n ≤ 1000000) (b : k ≤ 50) : okS d = true := okS_iff.mpr ⟨h.1, Nat.le_trans h.2.1 a, Nat.le_trans h.2.2 b⟩
theorem feN {k : Nat} {d : PyData} (h : okN d) : Fe 95 k d := by
  obtain ⟨z, rfl, h1, h2⟩ := h
  refine ⟨?_, by show 10 * z.length + 5 ≤ 95; omega, Nat.zero_le _⟩
  show (decide (z.length ≤ 1000) && z.cps.toList.all fun c => decide (c < 128)) = true
  rw [h2, decide_eq_true (by omega)]; rfl
theorem feO {k : Nat} {d : PyData} (h : okO d) : Fe 95 k d := by
  rcases h with rfl | h
  · exact ⟨rfl, by decide, Nat.zero_le _⟩
  · exact feN h
theorem feW {k : Nat} {z : Str} (h : nmB z = true) : Fe 95 k (.str z) := feN (okN_of h)
theorem feC {d : PyData} (h : okC d) : Fe 199 1 d := by
  obtain ⟨a, b, rfl, ha, hb⟩ := h
  exact ((feO ha).cons (k := 0) ((feN hb).cons .nil)).tup.mono (by omega) (by omega)
def zB : Nat → Nat
  | 0 => 199
  | k + 1 => 2 * zB k + 400
theorem zB_ge : ∀ k, 199 ≤ zB k
  | 0 => Nat.le_refl _
  | k + 1 => by have := zB_ge k; show 199 ≤ 2 * zB k + 400; omega
theorem feTm : ∀ (k : Nat) {d : PyData}, okTm k d → Fe (zB k) (2 * k + 1) d
  | k, d, h => by
    have hk := zB_ge k
    rcases h.cases with h | h | ⟨j, rfl, s, n, ts, rfl, hs, hn, h1, h2, hts⟩
    · exact (feN h).mono (by omega) (Nat.le_refl _)
    · exact (feC h).mono (by omega) (by omega)
    · have ht := (FeL.of h2 fun t ht => feTm j (hts t ht)).tup
      have e : zB (j + 1) = 2 * zB j + 400 := rfl
      exact ((feW (z := "call") (by decide +kernel)).cons ((feO hs).cons ((feN hn).cons (ht.cons .nil)))).tup.mono (by omega) (by omega)
theorem feTold {d : PyData} (h : okTold d) : Fe 5000 8 d := by
  have e3 : zB 3 = 4392 := by decide
  rcases h with ⟨n, rfl, hn⟩ | ⟨a, b, n, rfl, ha, hb, hn⟩ | ⟨t, n, rfl, ht, hn⟩
  · exact ((feW (k := 0) (z := "star") (by decide +kernel)).cons ((feN hn).cons .nil)).tup.mono (by omega) (by omega)
  · exact ((feW (k := 1) (z := "column") (by decide +kernel)).cons ((feC ⟨a, b, rfl, ha, hb⟩).cons ((feN hn).cons .nil))).tup.mono (by omega) (by omega)
  · exact ((feW (k := 7) (z := "term") (by decide +kernel)).cons ((feTm 3 (okTm_of ht)).cons ((feN hn).cons .nil))).tup.mono (by omega) (by omega)
theorem feSrc {d : PyData} (h : okSrc d) : Fe 300 8 d := by
  obtain ⟨s, n, l, rfl, hs, hn, hl⟩ := h
  exact ((feO (k := 0) hs).cons ((feN hn).cons ((feN hl).cons .nil))).tup.mono (by omega) (by omega)
theorem feCond {d : PyData} (h : okCond d) : Fe 3000 8 d := by
  rcases h with ⟨a, b, rfl, ha, hb⟩ | ⟨a, ds, rfl, ha, hl, hd⟩
  · exact ((feW (k := 1) (z := "equal") (by decide +kernel)).cons ((feC ha).cons ((feC hb).cons .nil))).tup.mono (by omega) (by omega)
  · have ht := (FeL.of (k := 0) hl fun t ht => feN (hd t ht)).tup
    exact ((feW (k := 1) (z := "in") (by decide +kernel)).cons ((feC ha).cons (ht.cons .nil))).tup.mono (by omega) (by omega)
theorem feSt {d : PyData} (h : okSt d) : Fe 70000 11 d := by
  obtain ⟨b, ts, ss, cs, rfl, ht, hs, hc⟩ := h
  have h0 : Fe 5 9 (.bool b) := ⟨rfl, Nat.le_refl _, Nat.zero_le _⟩
  have h1 := (FeL.of ht.1 fun t h => feTold (ht.2 t h)).tup
  have h2 := (FeL.of hs.1 fun t h => feSrc (hs.2 t h)).tup
  have h3 := (FeL.of hc.1 fun t h => feCond (hc.2 t h)).tup
  exact (h0.cons (h1.cons (h2.cons (h3.cons .nil)))).tup.mono (by omega) (by omega)
mutual
theorem DT.dg {S : Addr → Prop} {H : Hp} : ∀ {d : PyData} {v : V}, DT H v d → DG S H v d
  | .none, _, h => by cases h; exact .non
  | .bool b, _, h => by cases h; exact .bl b
  | .int i, _, h => by cases h; exact .int i
  | .str x, _, h => by cases h; exact .str x
  | .list _, _, h => by cases h
  | .dict _, _, h => by cases h
  | .tuple ds, _, h => by cases h with | tup h1 h2 => exact .tup h1 (DTs.dg h2)
theorem DTs.dg {S : Addr → Prop} {H : Hp} : ∀ {ds : List PyData} {vs : List V}, DTs H vs ds → DGs S H vs ds
  | [], _, h => by cases h; exact .nil
  | d :: ds, _, h => by cases h with | cons h1 h2 => exact .cons (DT.dg h1) (DTs.dg h2)
end
theorem DG.lstE {S : Addr → Prop} {H : Hp} {v : V} {ds : List PyData} (h : DG S H v (.list ds)) : ∃ a xs, v = .ref a ∧ H a = some (.lst xs) ∧ ¬ S a ∧ DGs S H xs ds := by
  cases h with | lst h n hs => exact ⟨_, _, rfl, h, n, hs⟩
abbrev Sp1 (p : Addr) : Addr → Prop := fun a => a = p
theorem DGs.but {H H' : Hp} {p L : Addr} {n : Nat} (P : Pen H p L n) (b : But p H H') {vs : List V} {ds : List PyData} (h : DGs (Sp1 p) H vs ds) : DGs (Sp1 p) H' vs ds :=
  h.mono (P.tups b) fun a o n e => ⟨n, b a o n e⟩
theorem DG.but {H H' : Hp} {p L : Addr} {n : Nat} (P : Pen H p L n) (b : But p H H') {v : V} {d : PyData} (h : DG (Sp1 p) H v d) : DG (Sp1 p) H' v d :=
  h.mono (P.tups b) fun a o n e => ⟨n, b a o n e⟩
theorem Pen.dom {H : Hp} {p L : Addr} {n : Nat} (P : Pen H p L n) : ∀ a, Sp1 p a → H a ≠ none := fun a e z => by obtain ⟨xs, h⟩ := P.p; rw [show a = p from e, h] at z; cases z
/-! ### the slots' data, item by item -/
inductive SLs (S : Addr → Prop) (H : Hp) : L2.St → Rho → Prop
  | nil : SLs S H [] []
  | no {a : Option V} {σ : L2.St} {ρ : Rho} (h : SLs S H σ ρ) : SLs S H (a :: σ) (none :: ρ)
  | so {v : V} {d : PyData} {σ : L2.St} {ρ : Rho} (g : DG S H v d) (h : SLs S H σ ρ) : SLs S H (some v :: σ) (some d :: ρ)
theorem SLs.len {S : Addr → Prop} {H : Hp} : ∀ {σ : L2.St} {ρ : Rho}, SLs S H σ ρ → σ.length = ρ.length
  | _, _, .nil => rfl
  | _, _, .no h => congrArg (· + 1) h.len
  | _, _, .so _ h => congrArg (· + 1) h.len
theorem SLs.look {S : Addr → Prop} {H : Hp} : ∀ {σ : L2.St} {ρ : Rho}, SLs S H σ ρ → ∀ (i : Nat) (d : PyData), ρ[i]? = some (some d) → ∃ v, σ[i]? = some (some v) ∧ DG S H v d
  | _, _, .nil, i, d, q => by cases i <;> cases q
  | _, _, .no h, 0, d, q => by cases q
  | _, _, .no h, i + 1, d, q => h.look i d q
  | _, _, .so g h, 0, d, q => by cases q; exact ⟨_, rfl, g⟩
  | _, _, .so g h, i + 1, d, q => h.look i d q
theorem SLs.sl {S : Addr → Prop} {H : Hp} {σ : L2.St} {ρ : Rho} (h : SLs S H σ ρ) (hd : ∀ a, S a → H a ≠ none) : SL S H σ ρ := ⟨hd, h.look, h.len⟩
/-! ### slices -/
theorem cut_to {ds : List PyData} {s : Nat} (h : s ≤ ds.length) : cutD ds none (some (s : Int)) = ds.take s := by
  unfold My.cutD
  rw [HT.sIx_none, HT.sIx_nat, Nat.min_eq_left h, Nat.sub_zero, List.drop_zero]
theorem cut_from {ds : List PyData} {s : Nat} (h : s ≤ ds.length) : cutD ds (some (s : Int)) none = ds.drop s := by
  unfold My.cutD
  rw [HT.sIx_none, HT.sIx_nat, Nat.min_eq_left h]
  exact List.take_of_length_le (by rw [List.length_drop]; omega)
theorem sz_split {ds : List PyData} {s : Nat} (h : s < ds.length) : szEs ds = szEs (ds.take s) + (szE ds[s] + 2 + szEs (ds.drop (s + 1))) := by
  have e : ds = ds.take s ++ ds[s] :: ds.drop (s + 1) := by rw [List.getElem_cons_drop, List.take_append_drop]
  have := congrArg szEs e
  rw [szEs_append] at this
  exact this
theorem sz_rev : ∀ ds : List PyData, szEs ds.reverse = szEs ds
  | [] => rfl
  | d :: ds => by
    rw [List.reverse_cons, szEs_append, sz_rev ds]
    show szEs ds + (szE d + 2 + 0) = szE d + 2 + szEs ds
    omega
end K04

namespace K04
open PySem PySem.Spec PyProof.Rows L2 My
abbrev sLPath : Stmt := top 37
abbrev nLPath : List Str := ["_law_pen_here", "_law_pool"]
abbrev nBent : List Str := ["_law_pen_here", "_law_thing_here", "_law_odd", "_law_spot", "_law_inner", "_law_road"]
def spLPath : Sp := fun vs H Q _ => ∃ (p L : Addr) (n : Nat), vs = [.ref p] ∧ Pen H p L n ∧ n + 300 < 2 ^ 40 ∧ ∀ (v : V) (d : PyData) (H' : Hp), But p H H' → Pen H' p L (n + 1) → DG (Sp1 p) H' v d → Fe 300 1 d → Q v H'
def spBent (k : Nat) : Sp := fun vs H Q _ => ∃ (p L o : Addr) (n : Nat) (xs : List V) (ds : List PyData) (v : V) (d : PyData), vs = [.ref p, v, .ref o] ∧ Pen H p L n ∧ n + 10 * k + 100 < 2 ^ 40 ∧ H o = some (.lst xs) ∧ o ≠ p ∧ DGs (Sp1 p) H xs ds ∧ 0 < ds.length ∧ ds.length ≤ 100 ∧ (∀ x ∈ ds, Fe 300 5 x) ∧
  DG (Sp1 p) H v d ∧ okE d = true ∧ szE d ≤ 1000000 ∧ d.depth ≤ k ∧ ∀ (v' : V) (d' : PyData) (H' : Hp), But p H H' → Pen H' p L (n + 10 * k + 10) → DG (Sp1 p) H' v' d' → Fe (2 * szE d + 300) (d.depth + 5) d' → Q v' H'
section
variable {X : Cx} {ρ : Rho} {σ : L2.St} {H : Hp} {e c : Expr} {es : List Expr} {d : PyData} {k : Bool} {l : List Stmt} {S : Addr → Prop}
theorem _root_.My.ED.go {Q : VK} (h : ED X ρ e d) (sl : SLs S H σ ρ) (hd : ∀ a, S a → H a ≠ none) (q : ∀ v H', Same H H' → DG S H' v d → Q v H') : WE X e σ H Q := h S σ H Q (sl.sl hd) q
theorem _root_.My.TD.go {R : Bool → Hp → Prop} (h : TD X ρ c k) (sl : SLs S H σ ρ) (hd : ∀ a, S a → H a ≠ none) (q : ∀ H', Same H H' → R k H') : WT X c σ H R := h S σ H R (sl.sl hd) q
theorem _root_.My.LD.go {D : Ends} (h : LD X ρ l (.ret d)) (sl : SLs S H σ ρ) (hd : ∀ a, S a → H a ≠ none) (q : ∀ v H', Same H H' → DG S H' v d → D.rt v H') : WL X l D σ H := h S σ H D (sl.sl hd) q
end
def roadD (rd sp : Nat) (es : List PyData) : PyData := if rd = 0 then .tuple (es.take sp ++ es.drop (sp + 1)) else if rd = 1 then .tuple (es.take (sp + 1) ++ es.drop sp) else if rd = 2 then .list es else .tuple es.reverse
theorem fe_road {rd sp : Nat} {es : List PyData} (h : sp < es.length) (kE : okEs es = true) : Fe (2 * (szEs es + 5) + 300) (PyData.depthAll es + 1 + 5) (roadD rd sp es) := by
  have sp2 := sz_split h
  have dr : szEs (es.drop sp) = szE es[sp] + 2 + szEs (es.drop (sp + 1)) := by rw [← List.getElem_cons_drop h]; rfl
  have tk : szEs (es.take (sp + 1)) + szEs (es.drop (sp + 1)) = szEs es := by rw [← szEs_append, List.take_append_drop]
  have A : ∀ {xs : List PyData}, (∀ x ∈ xs, x ∈ es) → szEs xs ≤ 2 * szEs es → Fe (2 * (szEs es + 5) + 300) (PyData.depthAll es + 1 + 5) (.tuple xs) := fun {xs} hm hs =>
    ⟨okEs_of fun x hx => okEs_mem kE x (hm x hx), by show szEs xs + 5 ≤ _; omega, by
      have := depthAll_le (n := PyData.depthAll es) fun x hx => depth_mem (hm x hx)
      show PyData.depthAll xs + 1 ≤ _
      omega⟩
  unfold roadD
  split
  · refine A (fun x hx => ?_) ?_
    · rcases List.mem_append.mp hx with hx | hx
      · exact List.mem_of_mem_take hx
      · exact List.mem_of_mem_drop hx
    · rw [szEs_append]; omega
  split
  · refine A (fun x hx => ?_) ?_
    · rcases List.mem_append.mp hx with hx | hx
      · exact List.mem_of_mem_take hx
      · exact List.mem_of_mem_drop hx
    · rw [szEs_append]; omega
  split
  · refine ⟨kE, by show szEs es + 5 ≤ _; omega, by show PyData.depthAll es + 1 ≤ _; omega⟩
  · exact A (fun x hx => List.mem_reverse.mp hx) (by rw [sz_rev]; omega)
section
variable {P : Program} {w : World} {K : PySem.W.Frag} {mg : Str → Option Value} {base : Heap}
theorem scLPath : FnScope nLPath ["_law_pen_here"] (defScope sLPath) := ⟨rfl, rfl, rfl, by decide +kernel, rfl, by decide +kernel, by decide +kernel⟩
theorem scBent : FnScope nBent ["_law_pen_here", "_law_thing_here", "_law_odd"] (defScope sBent) := ⟨rfl, rfl, rfl, by decide +kernel, rfl, by decide +kernel, by decide +kernel⟩
abbrev poolD : List PyData := [.tuple [.str "main", .str "own"], .tuple [.str "own", .str "main"], .tuple [.str "main"], .tuple [.str "aux", .str "own", .str "main"], .tuple [.str "main", .str "own"], .tuple []]
def feB (n k : Nat) (d : PyData) : Bool := okE d && decide (szE d ≤ n) && decide (d.depth ≤ k)
theorem fe_of {n k : Nat} {ds : List PyData} (h : ds.all (feB n k) = true) : ∀ d ∈ ds, Fe n k d := fun d hd => by
  have := List.all_eq_true.mp h d hd
  unfold feB at this
  rw [Bool.and_eq_true, Bool.and_eq_true, decide_eq_true_eq, decide_eq_true_eq] at this
  exact ⟨this.1.1, this.1.2, this.2⟩
theorem ok_lpath {f : Addr} {fd : FuncData} (F : Fun K "_law_path" "_law_path" sLPath f fd) (cD : CalN P w K mg base 2 "_law_draw" spDraw) : FnOk P w K mg base CX0 3 f fd ["_law_pen_here"] spLPath := by
  refine Fun.okW F scLPath (fun vs H Q E h => by obtain ⟨a, b, c, rfl, _⟩ := h; rfl) (fun cdv B out s H vs Q E hr h => ?_)
  obtain ⟨p, L, n, rfl, Pn, hn, q⟩ := h
  refine l_cons ?_
  with_reducible refine s_set 1 ?kz1 ?ndz1 ?hiz1 ?hxz1 ?hsz1 ?hfz1
  case ndz1 => exact scLPath.nd
  case hiz1 => rfl
  case hxz1 => first | exact Or.inl rfl | exact Or.inr rfl
  case hsz1 => rfl
  case hfz1 => first | exact .inl rfl | exact .inr rfl
  refine (e_lit (d := .list poolD) (.lst (.cons (.tup (.cons (.str _) (.cons (.str _) .nil)) (by decide)) (.cons (.tup (.cons (.str _) (.cons (.str _) .nil)) (by decide)) (.cons (.tup (.cons (.str _) .nil) (by decide)) (.cons (.tup (.cons (.str _) (.cons (.str _) (.cons (.str _) .nil))) (by decide)) (.cons (.tup (.cons (.str _) (.cons (.str _) .nil)) (by decide)) (.cons (.tup .nil (by decide)) .nil)))))) (by decide)) (S := Sp1 p) Pn.dom fun v H1 s1 g1 => ?_)
  obtain ⟨l, xs, rfl, hl, nl, gs⟩ := DG.lstE g1
  have lx : xs.length = 6 := gs.length
  refine l_one (s_ret (e_ixL (e_var 1 rfl (e_c cD hr (by decide) (a_cons (e_var 0 rfl (a_cons (e_int (a_nil ⟨p, L, n, 6, rfl, Pn.same s1, by omega, by decide, by decide, fun d H2 b2 P2 hd => ?_⟩)))))))))
  have hd2 : d < xs.length := by omega
  obtain ⟨e, he, hg⟩ := (DGs.but (Pn.same s1) b2 gs).get (List.getElem?_eq_getElem hd2)
  exact ⟨l, xs, d, xs[d], rfl, rfl, .inl (.inl (b2 _ _ nl hl)), at_some hd2, q _ e _ ((But.of s1).trans b2) P2 hg (fe_of (n := 300) (k := 1) (ds := poolD) (by decide +kernel) e (List.mem_of_getElem? he))⟩
/-- one bent thing, of those behind it bent before -/
theorem bent_step {f : Addr} {fd : FuncData} (F : Fun K "_law_bent" "_law_bent" sBent f fd) (G : Bt w K mg) (cD : CalN P w K mg base 2 "_law_draw" spDraw) (k : Nat) (cB : ∀ j, k = j + 1 → CalN P w K mg base (j + 3) "_law_bent" (spBent j)) : FnOk P w K mg base CX0 (k + 3) f fd ["_law_pen_here", "_law_thing_here", "_law_odd"] (spBent k) := by
  refine Fun.okW F scBent (fun vs H Q E h => by obtain ⟨a, b, c, d, e, g, i, j, rfl, _⟩ := h; rfl) (fun cdv B out s H vs Q E hr h => ?_)
  obtain ⟨p, L, o, n, xs, ds, v, d, rfl, Pn, hn, ho, nop, gds, l0, l1, okd, gd, kE, kz, kd, q⟩ := h
  have lxs := gds.length
  -- the first question
  refine l_cons (WS.cut (P := fun σ H2 => σ = [some (.ref p), some v, some (.ref o), none, none, none] ∧ But p H H2 ∧ Pen H2 p L (n + 1)) (s_if (t_w (w_and ?_))) ?_)
  · refine TD.go (k := isTup d) (td_val (d_isTup G.isi G.tuple (d_var 1))) (SLs.no (.so gd (.no (.no (.no (.no .nil)))))) Pn.dom fun H1 s1 => ⟨fun ht => ?_, fun _ => ⟨fun e => Bool.noConfusion e, fun _ => l_nil ⟨rfl, But.of s1, (Pn.same s1).mono (by omega)⟩⟩⟩
    obtain ⟨es, rfl⟩ : ∃ es, d = .tuple es := ⟨_, els_tup ht⟩
    have P1 := Pn.same s1
    have gd1 := gd.same s1
    refine w_and ?_
    refine TD.go (k := decide ((0 : Int) < (es.length : Int))) (td_cmp o_gt (d_len G.len (d_var 1)) (d_int 0) ⟨_, _, rfl, rfl, rfl⟩) (SLs.no (.so gd1 (.no (.no (.no (.no .nil)))))) P1.dom fun H2 s2 => ⟨fun hp => ?_, fun _ => ⟨fun e => Bool.noConfusion e, fun _ => l_nil ⟨rfl, But.of (s1.trans s2), (P1.same s2).mono (by omega)⟩⟩⟩
    have hpos : 0 < es.length := by have := of_decide_eq_true hp; omega
    refine w_and1 (t_gt ?_)
    refine e_c cD hr (by omega) (a_cons (e_var 0 rfl (a_cons (e_int (a_nil ⟨p, L, n, 5, rfl, P1.same s2, by omega, by decide, by decide, fun d3 H3 b3 P3 hd3 => e_int ⟨_, _, rfl, rfl, fun hgt => ?_, fun _ => l_nil ⟨rfl, (But.of (s1.trans s2)).trans b3, P3⟩⟩⟩)))))
    -- a part is bent
    have gd3 := DG.but (P1.same s2) b3 (gd1.same s2)
    have b03 : But p H H3 := (But.of (s1.trans s2)).trans b3
    obtain ⟨a, ys, rfl, ha, gys⟩ : ∃ a ys, v = .ref a ∧ H3 a = some (.tup ys) ∧ DGs (Sp1 p) H3 ys es := by cases gd3 with | tup h hs => exact ⟨_, _, rfl, h, hs⟩
    have lys := gys.length
    have hle : es.length ≤ szEs es := len_szEs es
    have hsz : szEs es + 5 ≤ 1000000 := kz
    have hdp : PyData.depthAll es + 1 ≤ k := kd
    obtain ⟨j, rfl⟩ : ∃ j, k = j + 1 := ⟨k - 1, by omega⟩
    refine l_cons (s_set 3 (e_c cD hr (by omega) (a_cons (e_var 0 rfl (a_cons (e_len G.len (e_var 1 rfl ⟨a, ys, rfl, .inr (.inl (.inl ha)), a_nil ⟨p, L, n + 1, _, rfl, P3, by omega, by omega, by omega, fun sp H4 b4 P4 hd4 => ?_⟩⟩)))))) scBent.nd)
    have hsp : sp < es.length := by omega
    have gd4 := DG.but P3 b4 gd3
    refine l_cons (s_set 4 (e_c (cB j rfl) hr (Nat.le_refl _) (a_cons (e_var 0 rfl (a_cons (ED.go (d_ix (d_var 1) (d_var 3) (List.getElem?_eq_getElem hsp)) (SLs.no (.so gd4 (.no (.so (.int (sp : Int)) (.no (.no .nil)))))) P4.dom fun v5 H5 s5 g5 => a_cons (e_var 2 rfl (a_nil ?_))))))) scBent.nd)
    have P5 := P4.same s5
    have b05 : But p H H5 := (b03.trans b4).trans (But.of s5)
    have mem := List.getElem_mem hsp
    have szm := szEs_mem mem
    have dpm := depth_mem mem
    refine ⟨p, L, o, n + 2, xs, ds, v5, es[sp], rfl, P5, by omega, b05 _ _ nop ho, nop, DGs.but Pn b05 gds, l0, l1, okd, g5, okEs_mem kE _ mem, by omega, by omega, fun v6 d6 H6 b6 P6 g6 f6 => ?_⟩
    have gd6 := DG.but P5 b6 (gd4.same s5)
    refine l_one (s_ret ?_)
    refine ED.go (d_catT (d_catT (d_slTo (d_var 1) (d_var 3)) (d_tup (ad_cons (d_var 4) ad_nil) (by show 1 ≤ 1000; decide)) ?_) (d_slFrom (d_var 1) (d_addI (d_var 3) (d_int 1))) ?_) (SLs.no (.so gd6 (.no (.so (.int (sp : Int)) (.so g6 (.no .nil)))))) P6.dom fun v7 H7 s7 g7 => ?_
    · rw [cut_to (by omega)]
      show (es.take sp).length + 1 ≤ 10000000
      rw [List.length_take]; omega
    · have e1 : ((sp : Int) + 1) = ((sp + 1 : Nat) : Int) := rfl
      rw [cut_to (by omega), e1, cut_from (by omega), List.length_append, List.length_take, List.length_drop]
      show min sp es.length + 1 + (es.length - (sp + 1)) ≤ 10000000
      omega
    · have e1 : ((sp : Int) + 1) = ((sp + 1 : Nat) : Int) := rfl
      rw [cut_to (by omega), e1, cut_from (by omega)] at g7
      refine q v7 _ H7 ((b05.trans b6).trans (But.of s7)) ((P6.same s7).mono (by omega)) g7 ?_
      have sp2 := sz_split hsp
      have f61 := f6.2.1
      have f62 := f6.2.2
      refine ⟨okEs_of fun x hx => ?_, ?_, ?_⟩
      · rcases List.mem_append.mp hx with hx | hx
        · rcases List.mem_append.mp hx with hx | hx
          · exact okEs_mem kE _ (List.mem_of_mem_take hx)
          · rw [List.mem_singleton.mp hx]; exact f6.1
        · exact okEs_mem kE _ (List.mem_of_mem_drop hx)
      · show szEs ((es.take sp ++ [d6]) ++ es.drop (sp + 1)) + 5 ≤ 2 * (szEs es + 5) + 300
        rw [szEs_append, szEs_append]
        show szEs (es.take sp) + (szE d6 + 2 + 0) + szEs (es.drop (sp + 1)) + 5 ≤ _
        omega
      · refine Nat.succ_le_succ (depthAll_le fun x hx => ?_)
        show x.depth ≤ PyData.depthAll es + 5
        rcases List.mem_append.mp hx with hx | hx
        · rcases List.mem_append.mp hx with hx | hx
          · have := depth_mem (List.mem_of_mem_take hx); omega
          · rw [List.mem_singleton.mp hx]; omega
        · have := depth_mem (List.mem_of_mem_drop hx); omega
  rintro σ H1 ⟨rfl, b1, P1⟩
  have gd1 := DG.but Pn b1 gd
  have ho1 := b1 _ _ nop ho
  have gds1 := DGs.but Pn b1 gds
  refine l_cons (s_set 5 (e_c cD hr (by omega) (a_cons (e_var 0 rfl (a_cons (e_int (a_nil ⟨p, L, n + 1, 7, rfl, P1, by omega, by decide, by decide, fun rd H2 b2 P2 hrd => ?_⟩)))))) scBent.nd)
  have gd2 := DG.but P1 b2 gd1
  have ho2 := b2 _ _ nop ho1
  have gds2 := DGs.but P1 b2 gds1
  have b02 := b1.trans b2
  refine l_cons (WS.cut (P := fun σ H3 => σ = [some (.ref p), some v, some (.ref o), none, none, some (.int (rd : Int))] ∧ Same H2 H3) (s_if (t_w (w_and ?_))) ?_)
  · refine TD.go (k := isTup d) (td_val (d_isTup G.isi G.tuple (d_var 1))) (SLs.no (.so gd2 (.no (.no (.no (.so (.int (rd : Int)) .nil)))))) P2.dom fun H3 s3 => ⟨fun ht => ?_, fun _ => ⟨fun e => Bool.noConfusion e, fun _ => l_nil ⟨rfl, s3⟩⟩⟩
    obtain ⟨es, rfl⟩ : ∃ es, d = .tuple es := ⟨_, els_tup ht⟩
    have P3 := P2.same s3
    have gd3 := gd2.same s3
    refine w_and ?_
    refine TD.go (k := decide ((0 : Int) < (es.length : Int))) (td_cmp o_gt (d_len G.len (d_var 1)) (d_int 0) ⟨_, _, rfl, rfl, rfl⟩) (SLs.no (.so gd3 (.no (.no (.no (.so (.int (rd : Int)) .nil)))))) P3.dom fun H4 s4 => ⟨fun hp => ?_, fun _ => ⟨fun e => Bool.noConfusion e, fun _ => l_nil ⟨rfl, s3.trans s4⟩⟩⟩
    have hpos : 0 < es.length := by have := of_decide_eq_true hp; omega
    refine w_and1 (t_lt (e_var 5 rfl (e_int ⟨_, _, rfl, rfl, fun _ => ?_, fun _ => l_nil ⟨rfl, s3.trans s4⟩⟩)))
    have P4 := P3.same s4
    have gd4 := gd3.same s4
    obtain ⟨a, ys, rfl, ha, gys⟩ : ∃ a ys, v = .ref a ∧ H4 a = some (.tup ys) ∧ DGs (Sp1 p) H4 ys es := by cases gd4 with | tup h hs => exact ⟨_, _, rfl, h, hs⟩
    have lys := gys.length
    have hle : es.length ≤ szEs es := len_szEs es
    have hsz : szEs es + 5 ≤ 1000000 := kz
    have b04 : But p H H4 := b02.trans (But.of (s3.trans s4))
    refine l_cons (s_set 3 (e_c cD hr (by omega) (a_cons (e_var 0 rfl (a_cons (e_len G.len (e_var 1 rfl ⟨a, ys, rfl, .inr (.inl (.inl ha)), a_nil ⟨p, L, n + 2, _, rfl, P4, by omega, by omega, by omega, fun sp H5 b5 P5 hd5 => ?_⟩⟩)))))) scBent.nd)
    have hsp : sp < es.length := by omega
    have gd5 := DG.but P4 b5 gd4
    have b05 := b04.trans b5
    have e1 : ((sp : Int) + 1) = ((sp + 1 : Nat) : Int) := rfl
    have hr0 : ∀ {m : Nat}, decide ((rd : Int) = (m : Int)) = true → rd = m := fun h => Int.ofNat.inj (of_decide_eq_true h)
    have hr1 : ∀ {m : Nat}, decide ((rd : Int) = (m : Int)) = false → rd ≠ m := fun h e => of_decide_eq_false h (by rw [e])
    refine LD.go (d := roadD rd sp es) (ld_ifret (k := decide ((rd : Int) = (0 : Nat))) (td_cmp o_eqI (d_var 5) (d_int 0) ⟨_, _, rfl, rfl, rfl⟩) (fun h => ?_) fun h => ?_) (SLs.no (.so gd5 (.no (.so (.int (sp : Int)) (.no (.so (.int (rd : Int)) .nil)))))) P5.dom fun v6 H6 s6 g6 => q v6 _ H6 (b05.trans (But.of s6)) ((P5.same s6).mono (by omega)) g6 (fe_road hsp kE)
    · have e := hr0 h
      refine ld_end (sd_ret (ED.cast (d_catT (d_slTo (d_var 1) (d_var 3)) (d_slFrom (d_var 1) (d_addI (d_var 3) (d_int 1))) ?_) ?_))
      · rw [cut_to (by omega), e1, cut_from (by omega), List.length_take, List.length_drop]; omega
      · rw [cut_to (by omega), e1, cut_from (by omega), e]; rfl
    have n0 := hr1 h
    refine ld_ifret (k := decide ((rd : Int) = (1 : Nat))) (td_cmp o_eqI (d_var 5) (d_int 1) ⟨_, _, rfl, rfl, rfl⟩) (fun h => ?_) fun h => ?_
    · have e := hr0 h
      refine ld_end (sd_ret (ED.cast (d_catT (d_slTo (d_var 1) (d_addI (d_var 3) (d_int 1))) (d_slFrom (d_var 1) (d_var 3)) ?_) ?_))
      · rw [e1, cut_to (by omega), cut_from (by omega), List.length_take, List.length_drop]; omega
      · rw [e1, cut_to (by omega), cut_from (by omega), e]; rfl
    have n1 := hr1 h
    refine ld_end (sd_ret (d_if (k := decide ((rd : Int) = (2 : Nat))) (td_cmp o_eqI (d_var 5) (d_int 2) ⟨_, _, rfl, rfl, rfl⟩) (fun h => ?_) fun h => ?_))
    · have e := hr0 h
      refine ED.cast (d_listT G.list (d_var 1)) ?_
      rw [e]; rfl
    · have n2 := hr1 h
      refine ED.cast (d_revT (d_var 1)) ?_
      unfold roadD
      rw [if_neg n0, if_neg n1, if_neg n2]
  rintro σ H3 ⟨rfl, s3⟩
  have P3 := P2.same s3
  have ho3 := s3 _ _ ho2
  refine l_one (s_ret (e_ixL (e_var 2 rfl (e_c cD hr (by omega) (a_cons (e_var 0 rfl (a_cons (e_len G.len (e_var 2 rfl ⟨o, xs, rfl, .inl (.inl (.inl ho3)), a_nil ⟨p, L, n + 2, _, rfl, P3, by omega, by omega, by omega, fun dd H4 b4 P4 hd4 => ?_⟩⟩)))))))))
  have hd2 : dd < xs.length := by omega
  obtain ⟨e, he, hg⟩ := (DGs.but P3 b4 (gds2.same s3)).get (List.getElem?_eq_getElem hd2)
  have fe := okd e (List.mem_of_getElem? he)
  exact ⟨o, xs, dd, xs[dd], rfl, rfl, .inl (.inl (b4 _ _ nop ho3)), at_some hd2, q _ e _ ((b02.trans (But.of s3)).trans b4) (P4.mono (by omega)) hg (fe.mono (by omega) (by omega))⟩
end
end K04

namespace K04
open PySem PySem.Spec PyProof.Rows L2 My
section
variable {P : Program} {w : World} {K : PySem.W.Frag} {mg : Str → Option Value} {base : Heap}
theorem ok_bentK {f : Addr} {fd : FuncData} (F : Fun K "_law_bent" "_law_bent" sBent f fd) (bd : Binds K fd ["_law_pen_here", "_law_thing_here", "_law_odd"] []) (hm : mg "_law_bent" = some (.ref f)) (G : Bt w K mg) (cD : CalN P w K mg base 2 "_law_draw" spDraw) : ∀ k, FnOk P w K mg base CX0 (k + 3) f fd ["_law_pen_here", "_law_thing_here", "_law_odd"] (spBent k) := by
  intro k
  induction k with
  | zero => exact bent_step F G cD 0 fun j e => absurd e (by omega)
  | succ k ih =>
    refine bent_step F G cD (k + 1) fun j e => ?_
    have ej : j = k := by omega
    subst ej
    exact ⟨f, fd, _, ih, hm, F.kp, bd⟩
theorem ok_bent {f : Addr} {fd : FuncData} (F : Fun K "_law_bent" "_law_bent" sBent f fd) (bd : Binds K fd ["_law_pen_here", "_law_thing_here", "_law_odd"] []) (hm : mg "_law_bent" = some (.ref f)) (G : Bt w K mg) (cD : CalN P w K mg base 2 "_law_draw" spDraw) : FnOk P w K mg base CX0 33 f fd ["_law_pen_here", "_law_thing_here", "_law_odd"] (spBent 30) := ok_bentK F bd hm G cD 30
end
end K04

namespace L2
open PySem PySem.Spec PyProof.Rows
theorem tuple_mulW1 (l : Addr) (items : Array Value) (n : Nat) (dd : Option Addr) (sl : Array (Option Value)) (u : Tok) :
    Meets (Builtin.«tuple.__mul__» ⟨[.ref l, .int 1 u], []⟩) (fun _ R s => s.heap.get? l = some { cls := .type "tuple", dict := dd, data := .seq items n, slots := sl } ∧ R (.ok (.ret (Value.ref l))) s) :=
  .of_wp fun prog w A R s h => by
    obtain ⟨hp, g, d, tk, os⟩ := s
    obtain ⟨hl, h⟩ := h
    have f1 := AutoSeq1.idx_int
    wp_walk using wpAny_loadPart' hl
    repeat (first
      | (refine wpAny_ite_false (decide_eq_false (by decide)) ?_; wp_walk using wpAny_loadPart' hl)
      | (refine wpAny_ite_true (decide_eq_true (by simp)) ?_; wp_walk using wpAny_loadPart' hl))
    exact ⟨_, rfl, h⟩
theorem tuple_mulW0 (l : Addr) (items : Array Value) (n : Nat) (dd : Option Addr) (sl : Array (Option Value)) (u : Tok) (c1 : (items.isEmpty || (0 : Int) == 1) = false) :
    Meets (Builtin.«tuple.__mul__» ⟨[.ref l, .int 0 u], []⟩) (fun _ R s => s.heap.get? l = some { cls := .type "tuple", dict := dd, data := .seq items n, slots := sl } ∧
      R (.ok (.ret (Value.ref s.heap.objs.size))) { s with heap := s.heap.push { cls := Value.type "tuple", data := Data.seq #[] }, toks := s.toks }) :=
  .of_wp fun prog w A R s h => by
    obtain ⟨hp, g, d, tk, os⟩ := s
    obtain ⟨hl, h⟩ := h
    have f1 := AutoSeq1.idx_int
    wp_walk using wpAny_loadPart' hl
    repeat (first
      | (refine wpAny_ite_false (decide_eq_false (by rw [c1]; exact Bool.false_ne_true)) ?_; wp_walk using wpAny_loadPart' hl)
      | (refine wpAny_ite_false (decide_eq_false (by decide)) ?_; wp_walk using wpAny_loadPart' hl)
      | (refine wpAny_ite_true (decide_eq_true (by simp)) ?_; wp_walk using wpAny_loadPart' hl)
      | (refine wpAny_ite_false (decide_eq_false (Nat.not_lt.mpr (Nat.zero_le _))) ?_; wp_walk using wpAny_loadPart' hl))
    exact ⟨_, rfl, h⟩
theorem rep_size {α : Type} (a : Array α) : ∀ (m : Nat) (b : Array α), ((List.replicate m a).foldl (fun x1 x2 => x1 ++ x2) b).size = b.size + m * a.size
  | 0, b => by simp
  | m + 1, b => by
    rw [List.replicate_succ, List.foldl_cons, rep_size a m (b ++ a), Array.size_append, Nat.succ_mul]
    omega
section
variable {X : Cx}
/-- t * 1 is t itself; t * 0 is () -/
theorem op_rep01 : OpR X (binaryOp .Mult) (fun x y H Q => ∃ l k xs, x = .ref l ∧ y = .int k ∧ SqT X.K H l xs ∧ xs ≠ [] ∧ ((k = 1 ∧ Q (.ref l) H) ∨ (k = 0 ∧ ∀ p, H p = none → Q (.ref p) (upd H p (.tup []))))) := by
  intro pins s σ H x y v u Q I rx ry h
  obtain ⟨l, k, xs, rfl, rfl, hT, hne, q⟩ := h
  cases rx
  obtain ⟨t, rfl⟩ := ry
  obtain ⟨its, r, ⟨⟨cls, dd, data, sl⟩, ho, hc, n, hd⟩, hs⟩ := I.tuple hT
  simp only at hc hd
  subst hc hd
  rcases q with ⟨rfl, q⟩ | ⟨rfl, q⟩
  · exact wpAny_binaryOp_repeat_ref (T := "tuple") (U := "int") (by decide) ⟨_, ho, rfl⟩ (fun s' => typeIs_int s' 1 t) noFill_tuple_mul F.fills_int_mul F.slot_int_rmul repeat_tuple F.slot_int_index.lookup
      (call_meets F.slot_int_rmul (typeIs_int s 1 t) F.entry_int_rmul (F.args_int_rmul_2 _ _) (int_rmul_tuple 1 t l its.toArray n dd sl)
        ⟨ho, rfl, ⟨_, ho, rfl⟩, call_meets F.slot_tuple_mul ⟨_, ho, rfl⟩ F.entry_tuple_mul (F.args_tuple_mul_2 _ _) (tuple_mulW1 l its.toArray n dd sl t) ⟨ho, ⟨.ref l, H, I, rfl, q⟩⟩⟩)
  · have hn : its ≠ [] := fun e => hne (by
      have hle : its.length = xs.length := r.length.symm
      rw [e] at hle
      exact List.eq_nil_of_length_eq_zero hle.symm)
    have hi : its.toArray.isEmpty = false := by
      cases its with
      | nil => exact absurd rfl hn
      | cons a b => rfl
    refine wpAny_binaryOp_repeat_ref (T := "tuple") (U := "int") (by decide) ⟨_, ho, rfl⟩ (fun s' => typeIs_int s' 0 t) noFill_tuple_mul F.fills_int_mul F.slot_int_rmul repeat_tuple F.slot_int_index.lookup
      (call_meets F.slot_int_rmul (typeIs_int s 0 t) F.entry_int_rmul (F.args_int_rmul_2 _ _) (int_rmul_tuple 0 t l its.toArray n dd sl)
        ⟨ho, rfl, ⟨_, ho, rfl⟩, call_meets F.slot_tuple_mul ⟨_, ho, rfl⟩ F.entry_tuple_mul (F.args_tuple_mul_2 _ _) (tuple_mulW0 l its.toArray n dd sl t (by rw [hi]; rfl)) ⟨ho, ?_⟩⟩)
    refine ⟨.ref s.heap.objs.size, _, I.laid (t' := s.toks) (o := .tup []) (fun b ob q => Heap.get?_push_of_some _ q) (Nat.le_refl _) ?_, rfl, q _ (I.hok.fresh (Nat.le_refl _))⟩
    exact ⟨Nat.zero_le _, [], .nil, IsTup.new _ _⟩
/-- text * int -/
theorem op_mulS : OpR X (binaryOp .Mult) (fun x y H Q => ∃ z k, x = .str z ∧ y = .int k ∧ 2 ≤ k ∧ k ≤ 1000 ∧ 1 ≤ z.length ∧ z.length ≤ 1000 ∧ Q (.str ⟨(List.replicate k.toNat z.cps).foldl (· ++ ·) #[]⟩) H) := by
  intro pins s σ H x y v u Q I rx ry h
  obtain ⟨z, k, rfl, rfl, h1, h2, h3, h4, q⟩ := h
  obtain ⟨t, rfl⟩ := rx
  obtain ⟨t', rfl⟩ := ry
  have hno : (k == 1 || z.length == 0) = false := by
    rw [beq_eq_false_iff_ne.mpr (show k ≠ 1 by omega), beq_eq_false_iff_ne.mpr (show z.length ≠ 0 by omega)]; rfl
  refine P.mul_str ?_ (fun _ _ => ?_) (fun _ _ => ?_) ?_
  · rw [decide_eq_false (by omega), decide_eq_false (by omega)]; rfl
  · have : (1000 : Int) ≤ (2 ^ 63 - 1) / k := by
      refine Int.le_ediv_of_mul_le (by omega) ?_
      omega
    omega
  · refine decide_eq_false ?_
    rw [sizeLine_eq]
    have : z.length * k.toNat ≤ 1000 * 1000 := Nat.mul_le_mul h4 (by omega)
    omega
  · rw [if_neg (by omega), hno, if_neg (by decide)]
    refine ⟨?_, ⟨.str _, H, I.tok _, ⟨_, rfl⟩, q⟩⟩
    show ((List.replicate k.toNat z.cps).foldl (fun x1 x2 => x1 ++ x2) #[]).size ≤ sizeLine
    rw [rep_size, sizeLine_eq]
    have : k.toNat * z.cps.size ≤ 1000 * 1000 := Nat.mul_le_mul (by omega) h4
    show #[].size + _ ≤ _
    simp only [List.size_toArray, List.length_nil]
    omega
end
end L2
namespace My
open PySem PySem.Spec PyProof.Rows L2
def repS (z : Str) (k : Nat) : Str := ⟨(List.replicate k z.cps).foldl (· ++ ·) #[]⟩
theorem DGs.flat {S : Addr → Prop} {H : Hp} {xs : List V} {ds : List PyData} (h : DGs S H xs ds) : ∀ k, DGs S H (List.replicate k xs).flatten (List.replicate k ds).flatten
  | 0 => .nil
  | k + 1 => by rw [List.replicate_succ, List.replicate_succ, List.flatten_cons, List.flatten_cons]; exact h.append (h.flat k)
section
variable {X : Cx} {ρ : Rho} {a b e : Expr} {ds : List PyData} {pos : Pos} {k : Nat}
/-- t * k -/
theorem d_mulT (h : ED X ρ a (.tuple ds)) (hb : ED X ρ b (.int (k : Int))) (h0 : 0 < ds.length) (h1 : ds.length ≤ 1000) (h2 : k ≤ 1000) : ED X ρ (.BinOp a .Mult b pos) (.tuple (List.replicate k ds).flatten) := fun S σ H Q sl q => by
  by_cases hk : 2 ≤ k
  · refine e_op op_repT (h S σ H _ sl fun v H1 s1 g1 => hb S σ H1 _ (sl.same s1) fun u H2 s2 g2 => ?_)
    cases g2
    obtain ⟨a, xs, rfl, ha, hs, sq⟩ := (g1.same s2).seq (K := X.K)
    have lx := hs.length
    exact ⟨a, _, xs, rfl, rfl, sq, fun e => by rw [e] at lx; simp at lx; omega, by omega, by omega, by omega, fun p hp => q _ _ ((s1.trans s2).trans (same_new hp)) (.tup upd_same ((hs.flat k).same (same_new hp)))⟩
  · refine e_op op_rep01 (h S σ H _ sl fun v H1 s1 g1 => hb S σ H1 _ (sl.same s1) fun u H2 s2 g2 => ?_)
    cases g2
    obtain ⟨a, xs, rfl, ha, hs, sq⟩ := (g1.same s2).seq (K := X.K)
    have lx := hs.length
    refine ⟨a, _, xs, rfl, rfl, sq, fun e => by rw [e] at lx; simp at lx; omega, ?_⟩
    by_cases k1 : k = 1
    · subst k1
      refine .inl ⟨rfl, q _ _ (s1.trans s2) ?_⟩
      show DG S H2 (.ref a) (.tuple (ds ++ []))
      rw [List.append_nil]
      exact .tup ha hs
    · have k0 : k = 0 := by omega
      subst k0
      exact .inr ⟨rfl, fun p hp => q _ _ ((s1.trans s2).trans (same_new hp)) (.tup upd_same .nil)⟩
/-- text * k -/
theorem d_mulS {z : Str} (h : ED X ρ a (.str z)) (hb : ED X ρ b (.int (k : Int))) (h0 : 1 ≤ z.length) (h1 : z.length ≤ 1000) (h2 : 2 ≤ k) (h3 : k ≤ 1000) : ED X ρ (.BinOp a .Mult b pos) (.str (repS z k)) := fun S σ H Q sl q =>
  e_op op_mulS (h S σ H _ sl fun v H1 s1 g1 => hb S σ H1 _ (sl.same s1) fun u H2 s2 g2 => by
    cases g1; cases g2
    exact ⟨z, _, rfl, rfl, by omega, by omega, h0, h1, q _ _ (s1.trans s2) (.str _)⟩)
/-- text[i] -/
theorem d_ixS {z : Str} {i c : Nat} (h : ED X ρ a (.str z)) (hb : ED X ρ b (.int (i : Int))) (hz : z.length ≤ 1000) (hi : z.cps.toList[i]? = some c) (hs : PlainIx b := by exact fun _ _ => rfl) : ED X ρ (.Subscript a b pos) (.str ⟨#[c]⟩) := fun S σ H Q sl q =>
  e_ixS (h S σ H _ sl fun v H1 s1 g1 => hb S σ H1 _ (sl.same s1) fun u H2 s2 g2 => by
    cases g1; cases g2
    exact ⟨z, _, c, rfl, rfl, Nat.le_trans hz (by decide), atI_nat hi, q _ _ (s1.trans s2) (.str _)⟩) hs
end
end My

namespace My
open PySem PySem.Spec PyProof.Rows L2
/-! ### a block that gathers data in one list -/
abbrev SpF (p : Addr) : Addr → Prop := fun a => a = p
structure Ap (F : Addr) (ok : PyData → Prop) (ρ : Rho) (n : Nat) (σ : L2.St) (H : Hp) : Prop where
  sl : SL (SpF F) H σ ρ
  at0 : σ[0]? = some (some (.ref F))
  lst : ∃ xs ds, H F = some (.lst xs) ∧ DGs (SpF F) H xs ds ∧ ds.length ≤ n ∧ ∀ d ∈ ds, ok d
def SE (X : Cx) (F : Addr) (ok : PyData → Prop) (st : Stmt) (ρ : Rho) (n : Nat) (ρ' : Rho) (n' : Nat) : Prop := ∀ (σ : L2.St) (H : Hp) (D : Ends), Ap F ok ρ n σ H → (∀ σ' H', But F H H' → Ap F ok ρ' n' σ' H' → D.nx σ' H') → WS X st D σ H
def LE (X : Cx) (F : Addr) (ok : PyData → Prop) (l : List Stmt) (ρ : Rho) (n : Nat) (ρ' : Rho) (n' : Nat) : Prop := ∀ (σ : L2.St) (H : Hp) (D : Ends), Ap F ok ρ n σ H → (∀ σ' H', But F H H' → Ap F ok ρ' n' σ' H' → D.nx σ' H') → WL X l D σ H
theorem SL.keep {S : Addr → Prop} {H H' : Hp} {σ : L2.St} {ρ : Rho} (h : SL S H σ ρ) (ht : Tup H H') (k : ∀ a o, ¬ S a → H a = some o → H' a = some o) (hd : ∀ a, S a → H' a ≠ none) : SL S H' σ ρ :=
  ⟨hd, fun i d q => let ⟨v, a, b⟩ := h.look i d q; ⟨v, a, b.mono ht fun a o n e => ⟨n, k a o n e⟩⟩, h.len⟩
section
variable {X : Cx} {F : Addr} {ok : PyData → Prop} {ρ ρ1 ρ2 : Rho} {n n1 n2 : Nat} {e : Expr} {d : PyData} {st : Stmt} {l : List Stmt} {ds : List PyData} {pos pos' apos p pt : Pos} {x : Str}
theorem le_nil : LE X F ok [] ρ n ρ n := fun σ H D I q => l_nil (q σ H (fun _ _ _ e => e) I)
theorem le_cons (h : SE X F ok st ρ n ρ1 n1) (hs : LE X F ok l ρ1 n1 ρ2 n2) : LE X F ok (st :: l) ρ n ρ2 n2 := fun σ H D I q =>
  l_cons (h σ H _ I fun σ1 H1 b1 I1 => hs σ1 H1 _ I1 fun σ2 H2 b2 I2 => q σ2 H2 (b1.trans b2) I2)
theorem se_set (i : Nat) (h : ED X ρ e d) (hN : X.N.Nodup) (h0 : i ≠ 0) (hi : X.N[i]? = some x := by rfl) (hx : Loc X.env.scope x := by first | exact Or.inl rfl | exact Or.inr rfl)
    (hs : swapsWith e (some (.Name x pos')) pos.line X.env = pure false := by rfl) (hf : X.fn x = true ∨ X.env.scope.names.lookup x = some .local := by first | exact .inl rfl | exact .inr rfl | assumption) :
    SE X F ok (.Assign [.Name x pos'] e pos) ρ n (ρ.set i (some d)) n := fun σ H D I q =>
  s_set i (h _ σ H _ I.sl fun v H1 s1 g1 => by
    obtain ⟨xs, ds, a, b, c, k⟩ := I.lst
    exact q _ H1 (But.of s1) ⟨(I.sl.same s1).set g1, by rw [List.getElem?_set_ne h0]; exact I.at0, xs, ds, s1 _ _ a, b.same s1, c, k⟩) hN hi hx hs hf
theorem se_app (h : ED X ρ e d) (hd : ok d) (hn : n ≤ 1000) (hi : X.N[0]? = some x := by rfl) (hv : Vis X.env.scope x := by first | exact Or.inl rfl | exact Or.inr (Or.inl rfl) | exact Or.inr (Or.inr rfl))
    (hbase : attributeBase (.Name x p) "append" X.env (eval (.Name x p) X.env) = eval (.Name x p) X.env := by rfl)
    (hfew : ((backTo pos (starEach [e] X.env)).all (fun x => !x.1) && (backToKw pos (keywordEach [] X.env)).all (fun x => x.1.isSome) && decide ([e].length + ([] : List Keyword).length + (if ([] : List Keyword).isEmpty then 0 else 1) < 30)) = true := by rfl)
    (hline : (apos.endLine == pos.line) = true := by rfl) (hs : starEach [e] X.env = (false, eval e X.env) :: starEach [] X.env := by rfl) (hplain : (backTo pos (starEach [] X.env)).any (·.1) = false := by rfl)
    (hsw : swapsWith (.Call (.Attribute (.Name x p) "append" apos) [e] [] pos) none pos'.line X.env = pure false := by rfl)
    (hd1 : (x == ("__debug__" : Str)) = false := by decide) (hcd : (x == ("__classdict__" : Str)) = false := by decide) :
    SE X F ok (.Expr (.Call (.Attribute (.Name x p) "append" apos) [e] [] pos) pos') ρ n ρ (n + 1) := fun σ H D I q => by
  obtain ⟨xs, ds, a, b, c, k⟩ := I.lst
  have lx := b.length
  refine s_app (e_var 0 I.at0 ⟨⟨F, xs, rfl, .inl (.inl a)⟩, h _ σ H _ I.sl fun v H1 s1 g1 => ⟨F, xs, rfl, s1 _ _ a, Nat.lt_of_lt_of_le (show xs.length < 10000 by omega) (by decide), ?_⟩⟩ hi hv hd1 hcd) hbase hfew hline hs hplain hsw
  have a1 := s1 _ _ a
  have up : ∀ {v : V} {d : PyData}, DG (SpF F) H1 v d → DG (SpF F) (upd H1 F (.lst (xs ++ [v]))) v d := fun g => g.mono (Tup.set a1) fun b o nb e => ⟨nb, by rw [upd_ne nb]; exact e⟩
  refine q σ _ (fun b o nb e => by rw [upd_ne nb]; exact s1 _ _ e) ⟨(I.sl.same s1).keep (Tup.set a1) (fun b o nb e => by rw [upd_ne nb]; exact e) (fun b e => by rw [show b = F from e, upd_same]; exact fun z => by cases z), I.at0, xs ++ [v], ds ++ [d], upd_same, ?_, ?_, ?_⟩
  · exact ((b.same s1).append (.cons g1 .nil)).mono (Tup.set a1) fun b o nb e => ⟨nb, by rw [upd_ne nb]; exact e⟩
  · rw [List.length_append]; exact Nat.succ_le_succ c
  · intro y hy
    rcases List.mem_append.mp hy with hy | hy
    · exact k y hy
    · rw [List.mem_singleton.mp hy]; exact hd
inductive ForE (X : Cx) (F : Addr) (ok : PyData → Prop) (j : Nat) (body : List Stmt) : List PyData → Rho → Nat → Rho → Nat → Prop
  | done {ρ : Rho} {n : Nat} : ForE X F ok j body [] ρ n ρ n
  | next {ρ ρ1 ρ2 : Rho} {n n1 n2 : Nat} {d : PyData} {ds : List PyData} (h : LE X F ok body (ρ.set j (some d)) n ρ1 n1) (r : ForE X F ok j body ds ρ1 n1 ρ2 n2) : ForE X F ok j body (d :: ds) ρ n ρ2 n2
theorem se_for {iter : Expr} {body : List Stmt} (j : Nat) (h : ED X ρ iter (.tuple ds)) (hf : ForE X F ok j body ds ρ n ρ2 n2) (hj : j ≠ 0) (hg : PG X (.Name x pt) (gName j)) (hp : PassesOwn (model X.prog X.w) X.A X.env X.xe) (hc : X.calm = true := by rfl)
    (hs : ∀ x, foldedSetIterable iter X.env x = pure x := by intro _; rfl) : SE X F ok (.For (.Name x pt) iter body [] pos) ρ n ρ2 n2 := fun σ H D I q => by
  refine s_for (pi_tup pE) hg (h _ σ H _ I.sl fun v H1 s1 g1 => ?_) hp hc hs
  obtain ⟨a, xs, rfl, ha, hds, sq⟩ := g1.seq (K := X.K)
  have I1 : Ap F ok ρ n σ H1 := by
    obtain ⟨ys, es, a, b, c, k⟩ := I.lst
    exact ⟨I.sl.same s1, I.at0, ys, es, s1 _ _ a, b.same s1, c, k⟩
  have tupF : ∀ {H' : Hp}, But F H1 H' → Tup H1 H' := fun b => by
    obtain ⟨ys, es, a, _⟩ := I1.lst
    exact b.tups a
  refine ⟨a, rfl, ⟨xs, sq⟩, for_tup (xs := xs) (fun i σ' H' => ∃ ρ' n', But F H1 H' ∧ Ap F ok ρ' n' σ' H' ∧ ForE X F ok j body (ds.drop i) ρ' n' ρ2 n2) ⟨ρ, n, fun _ _ _ e => e, I1, hf⟩ (fun i σ' H' _ ⟨_, _, b2, _⟩ => .inl (.inl (tupF b2 _ _ ha))) ?_ ?_⟩
  · rintro i y σ' H' hi ⟨ρ', n', b2, I2, fd⟩
    obtain ⟨d, hd, hy⟩ := hds.get hi
    have lt : i < ds.length := (List.getElem?_eq_some_iff.mp hd).1
    have e : ds.drop i = d :: ds.drop (i + 1) := by
      rw [List.drop_eq_getElem_cons lt]
      rw [List.getElem?_eq_getElem lt] at hd
      rw [Option.some.inj hd]
    rw [e] at fd
    have hy2 := hy.mono (T := SpF F) (tupF b2) fun a o nb e => ⟨nb, b2 a o nb e⟩
    have I3 : Ap F ok (ρ'.set j (some d)) n' (σ'.set j (some y)) H' := ⟨I2.sl.set hy2, by rw [List.getElem?_set_ne hj]; exact I2.at0, I2.lst⟩
    cases fd with
    | next hb r => exact hb _ H' _ I3 fun σ4 H4 b4 I4 => ⟨_, _, b2.trans b4, I4, r⟩
  · rintro σ' H' ⟨ρ', n', b2, I2, fd⟩
    rw [hds.length, List.drop_length] at fd
    cases fd
    exact q σ' H' ((But.of s1).trans b2) I2
end
end My

namespace K04
open PySem PySem.Spec PyProof.Rows L2 My
mutual
theorem DG.free {S T : Addr → Prop} {H : Hp} : ∀ {v : V} {d : PyData}, DG S H v d → okD d = true → DG T H v d
  | _, _, .non, _ => .non
  | _, _, .bl b, _ => .bl b
  | _, _, .int i, _ => .int i
  | _, _, .str x, _ => .str x
  | _, _, .tup h hs, k => .tup h (DGs.free hs k)
  | _, _, .lst h n hs, k => by cases k
  | _, _, .dct h n hs, k => by cases k
theorem DGs.free {S T : Addr → Prop} {H : Hp} : ∀ {vs : List V} {ds : List PyData}, DGs S H vs ds → okDs ds = true → DGs T H vs ds
  | _, _, .nil, _ => .nil
  | _, _, .cons h hs, k => by
    have k' : (okD _ && okDs _) = true := k
    rw [Bool.and_eq_true] at k'
    exact .cons (DG.free h k'.1) (DGs.free hs k'.2)
end
abbrev nEdges : List Str := ["_law_found", "_law_one", "_law_source_here", "_law_many", "_law_worths_here", "_law_k", "_law_nym", "_law_ahead", "_law_inner", "_law_depth"]
def okEd (d : PyData) : Prop := Fe 5000 20 d ∧ okD d = true
theorem ed1 {d : PyData} (h : (feB 5000 20 d && okD d) = true) : okEd d := by
  rw [Bool.and_eq_true] at h
  exact ⟨fe_of (n := 5000) (k := 20) (ds := [d]) (by show (feB 5000 20 d && true) = true; rw [h.1]; rfl) d (List.mem_singleton.mpr rfl), h.2⟩
theorem le1 {a b : Nat} (h : Nat.ble a b = true) : a ≤ b := Nat.le_of_ble_eq_true h
def spEdges : Sp := fun vs H Q _ => vs = [] ∧ ∀ (F : Addr) (xs : List V) (ds : List PyData) (H' : Hp), Same H H' → H F = none → H' F = some (.lst xs) → (∀ S : Addr → Prop, DGs S H' xs ds) → ds.length ≤ 60 → (∀ d ∈ ds, Fe 5000 20 d) → Q (.ref F) H'
abbrev oneD : PyData := .tuple [.str "column", .tuple [.none, .str "id"], .str "id"]
abbrev srcD0 : PyData := .tuple [.none, .str "t", .str "t"]
abbrev wsD (m : Nat) : List PyData := (List.range m).map fun k => .str ⟨#[97 + k]⟩
abbrev e1D (m : Nat) : PyData := .tuple [.bool false, .tuple ((wsD m).map fun x => .tuple [.str "column", .tuple [.none, x], x]), .tuple [srcD0], .tuple []]
abbrev e2D (m : Nat) : PyData := .tuple [.bool false, .tuple [oneD], .tuple [srcD0], .tuple (List.replicate m [PyData.tuple [.str "equal", .tuple [.none, .str "a"], .tuple [.str "t", .str "a"]]]).flatten]
abbrev e3D (m : Nat) : PyData := .tuple [.bool true, .tuple [oneD], .tuple [srcD0], .tuple [.tuple [.str "in", .tuple [.none, .str "a"], .tuple (wsD m)]]]
abbrev e4D (m : Nat) : PyData := .tuple [.bool true, .tuple [.tuple [.str "term", .str (repS "a" m), .str "id"]], .tuple [srcD0], .tuple []]
abbrev e5D (m : Nat) : PyData := .tuple [.bool false, .tuple [oneD], .tuple ((List.range m).map fun k => .tuple [.none, .str "t", .str ⟨#[97 + k]⟩]), .tuple []]
def inD (ah : List PyData) : Nat → PyData
  | 0 => .tuple [.none, .str "a"]
  | k + 1 => .tuple [.str "call", .none, .str "f", .tuple (ah ++ [inD ah k])]
abbrev e6D (d : PyData) : PyData := .tuple [.bool false, .tuple [.tuple [.str "term", d, .str "id"]], .tuple [srcD0], .tuple []]
abbrev e7D (m : Nat) : PyData := .tuple [.bool false, .tuple [.tuple [.str "term", .tuple [.str "call", .str "s", .str "f", .tuple (List.replicate m [PyData.tuple [.none, .str "a"]]).flatten], .str "id"]], .tuple [srcD0], .tuple []]
end K04

namespace K04
open PySem PySem.Spec PyProof.Rows L2 My
abbrev oddD0 : List PyData := [.none, .bool true, .bool false, .int 0, .str "", .str "a", .str "in", .str "A", .str "abcdefghi", .tuple [], .list [], .dict [], .tuple [.str "a"], .tuple [.str "b", .str "a"], .tuple [.none, .str "id"]]
abbrev oddD1 : List PyData := [.tuple [.str "call", .none, .str "f", .tuple [.tuple [.str "p", .str "id"]]], .tuple [.str "call", .str "main", .str "f", .tuple [.str "a", .str "b"]], .str "call", .str "star", .str "equal"]
abbrev oddD2 : List PyData := [.int (10 ^ (39 : Int).toNat), .tuple [.str "p", .str "id"]]
abbrev oddD3 : List PyData := [.tuple [.str "call", .none, .str "g", .tuple [.tuple [.str "call", .none, .str "g", .tuple [.str "a"]]]]]
abbrev oddD4 : List PyData := [.tuple [.str "a", .str "b", .str "c"], .tuple [.str "main", .str "own", .str "a", .str "b", .str "c", .str "d"], .tuple [.str "main", .str "own", .str "a", .str "b", .str "c", .str "d", .str "e"]]
abbrev oddD5 : List PyData := [.tuple [.str "main", .str "own", .str "main"], .tuple [.str "call", .str "id"]]
abbrev plD : List PyData := [.tuple [.str "main", .str "emp"], .tuple [.str "main", .str "dept"], .tuple [.str "own", .str "emp"], .tuple [.str "own", .str "x"]]
abbrev nLaw : List Str := ["_law_script", "_law_pen_here", "_law_odd", "_law_places", "_law_cases", "_law_turn", "_law_one", "_law_change", "_law_before", "_law_found"]
def spLaw (K : PySem.W.Frag) : Sp := fun vs H Q _ => ∃ (a : Addr) (ns : List Int), vs = [.ref a] ∧ SqL K H a (ns.map V.int) ∧ ns.length ≤ 63 ∧ ∀ H', Q (.bl true) H'
theorem scLaw : FnScope nLaw ["_law_script"] (defScope sLaw) := ⟨rfl, rfl, rfl, by decide +kernel, rfl, by decide +kernel, by decide +kernel⟩
section
variable {X : Cx} {σ : L2.St} {H : Hp} {Q : VK} {b : Expr} {pos p1 : Pos} {x : Str} {S : Addr → Prop}
/-- a call of a def without arguments, by its name -/
theorem e_c0 {k j : Nat} {sp : Sp} (c : CalN X.prog X.w X.K X.mg X.base k x sp) (hr : Room j X.A) (hk : k ≤ j) (h : sp [] H Q E0) (hg : Gl X x := by rfl)
    (hdb : (x == ("__debug__" : Str)) = false := by decide) : WE X (.Call (.Name x p1) [] [] pos) σ H Q := by
  obtain ⟨f, fd, ps, F, hm, kp, hb⟩ := c.ex
  exact toE (pe_call0 F (hr.mono hk) hg hm kp hb .nil pass0 hdb) h
/-- a list and a display -/
theorem e_catL (i : Nat) {o : Addr} {xs : List V} {ds es : List PyData} (hi : σ[i]? = some (some (.ref o))) (ho : H o = some (.lst xs)) (gd : DGs S H xs ds) (dm : ∀ a, S a → H a ≠ none) (hb : Lit b (.list es)) (l : ds.length + es.length ≤ 1000)
    (k : ∀ (q : Addr) (ys : List V) (H' : Hp), Same H H' → H q = none → H' q = some (.lst ys) → DGs S H' ys (ds ++ es) → Q (.ref q) H') (hN : X.N[i]? = some x := by rfl) (hv : Vis X.env.scope x := by first | exact Or.inl rfl | exact Or.inr (Or.inl rfl) | exact Or.inr (Or.inr rfl))
    (hd : (x == ("__debug__" : Str)) = false := by decide) (hcd : (x == ("__classdict__" : Str)) = false := by decide) : WE X (.BinOp (.Name x p1) .Add b pos) σ H Q := by
  refine e_cat (e_var i hi (e_lit hb dm fun v H1 s1 g1 => ?_) hN hv hd hcd)
  obtain ⟨m, zs, rfl, hm, nm, gz⟩ := DG.lstE g1
  have l1 := gd.length
  have l2 := gz.length
  refine ⟨o, m, xs, zs, rfl, rfl, s1 _ _ ho, hm, Nat.le_trans (show xs.length + zs.length ≤ 1000 by omega) (by decide), fun q hq => k q _ _ (s1.trans (same_new hq)) ?_ upd_same (((gd.same s1).append gz).same (same_new hq))⟩
  cases e : H q with
  | none => rfl
  | some u => rw [s1 _ _ e] at hq; cases hq
end
theorem sl_none {S : Addr → Prop} {H : Hp} {σ : L2.St} (dm : ∀ a, S a → H a ≠ none) : SL S H σ (List.replicate σ.length none) := by
  refine ⟨dm, fun i d q => ?_, by rw [List.length_replicate]⟩
  rw [List.getElem?_replicate] at q
  split at q
  · cases q
  · cases q
def fb : Nat → Nat
  | 0 => 70000
  | i + 1 => 2 * fb i + 300
theorem fb_le : ∀ j, j ≤ 2 → fb j ≤ 300000 := by decide
mutual
theorem DG.dt {S : Addr → Prop} {H : Hp} : ∀ {v : V} {d : PyData}, DG S H v d → okD d = true → DT H v d
  | _, _, .non, _ => .non
  | _, _, .bl b, _ => .bl b
  | _, _, .int i, _ => .int i
  | _, _, .str x, _ => .str x
  | _, _, .tup h hs, k => .tup h (DGs.dt hs k)
  | _, _, .lst h n hs, k => by cases k
  | _, _, .dct h n hs, k => by cases k
theorem DGs.dt {S : Addr → Prop} {H : Hp} : ∀ {vs : List V} {ds : List PyData}, DGs S H vs ds → okDs ds = true → DTs H vs ds
  | _, _, .nil, _ => .nil
  | _, _, .cons h hs, k => by
    have k' : (okD _ && okDs _) = true := k
    rw [Bool.and_eq_true] at k'
    exact .cons (DG.dt h k'.1) (DGs.dt hs k'.2)
end
theorem ok_plD : ∀ d ∈ plD, okPl d := fun d hd => by
  simp only [List.mem_cons, List.not_mem_nil, or_false] at hd
  rcases hd with rfl | rfl | rfl | rfl <;> exact ⟨_, _, rfl, nm_of (by decide +kernel), nm_of (by decide +kernel)⟩
theorem okS_bool3 (a b c : Bool) : okS (.tuple [.bool a, .bool b, .bool c]) = true := by cases a <;> cases b <;> cases c <;> decide
theorem eqS_self (z : Str) : eqS (.str z) z = true := by show decide _ = true; simp
section
variable {P : Program} {w : World} {K : PySem.W.Frag} {mg : Str → Option Value} {base : Heap}
theorem ok_law {f : Addr} {fd : FuncData} (F : Fun K "law" "law" sLaw f fd) (G : Bt w K mg) (cP : CalN P w K mg base 1 "_law_pen" (spPen K)) (cD : CalN P w K mg base 2 "_law_draw" spDraw) (cS : CalN P w K mg base 10 "_law_statement" spStatement) (cA : CalN P w K mg base 3 "_law_path" spLPath) (cB : CalN P w K mg base 33 "_law_bent" (spBent 30)) (cE : CalN P w K mg base 1 "_law_edges" spEdges)
    (cSt : CalN P w K mg base 11 "is_statement" (spB stD)) (cVw : CalN P w K mg base 12 "is_view_statement" (spB viewD)) (cPt : CalN P w K mg base 11 "is_path" (spB pathD)) (cSa : CalG P w K mg base 8 "_law_is_said" (spB stD)) (cIn : CalG P w K mg base 9 "_law_is_inner" (spB viewD)) (cWy : CalN P w K mg base 3 "_law_is_way" (spB pathD)) :
    FnG P w K mg base 34 f fd ["_law_script"] (spLaw K) := by
  refine Fun.okG F scLaw (fun vs H Q E h => by obtain ⟨a, ns, rfl, _⟩ := h; rfl) (fun cdv B out s H vs Q E hr hG h => ?_)
  obtain ⟨a, ns, rfl, hS, hl, q⟩ := h
  refine l_cons ?_
  with_reducible refine s_set 1 ?kz1 ?ndz1 ?hiz1 ?hxz1 ?hsz1 ?hfz1
  case ndz1 => exact scLaw.nd
  case hiz1 => rfl
  case hxz1 => first | exact Or.inl rfl | exact Or.inr rfl
  case hsz1 => rfl
  case hfz1 => first | exact .inl rfl | exact .inr rfl
  refine (e_c cP hr (by decide) (a_cons (e_var 0 rfl (a_nil ⟨a, ns, rfl, hS, hl, fun p L H1 s1 hp hL P1 => ?_⟩))))
  refine l_cons ?_
  with_reducible refine s_set 2 ?ky0 ?ndy0 ?hiy0 ?hxy0 ?hsy0 ?hfy0
  case ndy0 => exact scLaw.nd
  case hiy0 => rfl
  case hxy0 => first | exact Or.inl rfl | exact Or.inr rfl
  case hsy0 => rfl
  case hfy0 => first | exact .inl rfl | exact .inr rfl
  refine e_lit (d := .list oddD0) (.lst (.cons .non (.cons (.bl _) (.cons (.bl _) (.cons (.int _) (.cons (.str _) (.cons (.str _) (.cons (.str _) (.cons (.str _) (.cons (.str _) (.cons (.tup .nil (by decide)) (.cons (.lst .nil (by decide)) (.cons .dct0 (.cons (.tup (.cons (.str _) .nil) (by decide)) (.cons (.tup (.cons (.str _) (.cons (.str _) .nil)) (by decide)) (.cons (.tup (.cons .non (.cons (.str _) .nil)) (by decide)) .nil))))))))))))))) (by decide)) (S := Sp1 p) P1.dom fun v2 G0 t0 g2 => ?_
  obtain ⟨o0, x0, rfl, ho0, no0, d0⟩ := DG.lstE g2
  have Q0 := P1.same t0
  refine l_cons ?_
  with_reducible refine s_set 2 ?ky1 ?ndy1 ?hiy1 ?hxy1 ?hsy1 ?hfy1
  case ndy1 => exact scLaw.nd
  case hiy1 => rfl
  case hxy1 => first | exact Or.inl rfl | exact Or.inr rfl
  case hsy1 => rfl
  case hfy1 => first | exact .inl rfl | exact .inr rfl
  refine e_catL 2 rfl ho0 d0 Q0.dom (es := oddD1) (.lst (.cons (.tup (.cons (.str _) (.cons .non (.cons (.str _) (.cons (.tup (.cons (.tup (.cons (.str _) (.cons (.str _) .nil)) (by decide)) .nil) (by decide)) .nil)))) (by decide)) (.cons (.tup (.cons (.str _) (.cons (.str _) (.cons (.str _) (.cons (.tup (.cons (.str _) (.cons (.str _) .nil)) (by decide)) .nil)))) (by decide)) (.cons (.str _) (.cons (.str _) (.cons (.str _) .nil))))) (by decide)) (by decide) fun o1 x1 G1 t1 no1 ho1 d1 => ?_
  have Q1 := Q0.same t1
  refine l_cons ?_
  with_reducible refine s_set 2 ?ky2 ?ndy2 ?hiy2 ?hxy2 ?hsy2 ?hfy2
  case ndy2 => exact scLaw.nd
  case hiy2 => rfl
  case hxy2 => first | exact Or.inl rfl | exact Or.inr rfl
  case hsy2 => rfl
  case hfy2 => first | exact .inl rfl | exact .inr rfl
  refine e_catL 2 rfl ho1 d1 Q1.dom (es := oddD2) (.lst (.cons (.pow _ _ ⟨by decide, by decide, by decide⟩) (.cons (.tup (.cons (.str _) (.cons (.str _) .nil)) (by decide)) .nil)) (by decide)) (by decide) fun o2 x2 G2 t2 no2 ho2 d2 => ?_
  have Q2 := Q1.same t2
  refine l_cons ?_
  with_reducible refine s_set 2 ?ky3 ?ndy3 ?hiy3 ?hxy3 ?hsy3 ?hfy3
  case ndy3 => exact scLaw.nd
  case hiy3 => rfl
  case hxy3 => first | exact Or.inl rfl | exact Or.inr rfl
  case hsy3 => rfl
  case hfy3 => first | exact .inl rfl | exact .inr rfl
  refine e_catL 2 rfl ho2 d2 Q2.dom (es := oddD3) (.lst (.cons (.tup (.cons (.str _) (.cons .non (.cons (.str _) (.cons (.tup (.cons (.tup (.cons (.str _) (.cons .non (.cons (.str _) (.cons (.tup (.cons (.str _) .nil) (by decide)) .nil)))) (by decide)) .nil) (by decide)) .nil)))) (by decide)) .nil) (by decide)) (by decide) fun o3 x3 G3 t3 no3 ho3 d3 => ?_
  have Q3 := Q2.same t3
  refine l_cons ?_
  with_reducible refine s_set 2 ?ky4 ?ndy4 ?hiy4 ?hxy4 ?hsy4 ?hfy4
  case ndy4 => exact scLaw.nd
  case hiy4 => rfl
  case hxy4 => first | exact Or.inl rfl | exact Or.inr rfl
  case hsy4 => rfl
  case hfy4 => first | exact .inl rfl | exact .inr rfl
  refine e_catL 2 rfl ho3 d3 Q3.dom (es := oddD4) (.lst (.cons (.tup (.cons (.str _) (.cons (.str _) (.cons (.str _) .nil))) (by decide)) (.cons (.tup (.cons (.str _) (.cons (.str _) (.cons (.str _) (.cons (.str _) (.cons (.str _) (.cons (.str _) .nil)))))) (by decide)) (.cons (.tup (.cons (.str _) (.cons (.str _) (.cons (.str _) (.cons (.str _) (.cons (.str _) (.cons (.str _) (.cons (.str _) .nil))))))) (by decide)) .nil))) (by decide)) (by decide) fun o4 x4 G4 t4 no4 ho4 d4 => ?_
  have Q4 := Q3.same t4
  refine l_cons ?_
  with_reducible refine s_set 2 ?ky5 ?ndy5 ?hiy5 ?hxy5 ?hsy5 ?hfy5
  case ndy5 => exact scLaw.nd
  case hiy5 => rfl
  case hxy5 => first | exact Or.inl rfl | exact Or.inr rfl
  case hsy5 => rfl
  case hfy5 => first | exact .inl rfl | exact .inr rfl
  refine e_catL 2 rfl ho4 d4 Q4.dom (es := oddD5) (.lst (.cons (.tup (.cons (.str _) (.cons (.str _) (.cons (.str _) .nil))) (by decide)) (.cons (.tup (.cons (.str _) (.cons (.str _) .nil)) (by decide)) .nil)) (by decide)) (by decide) fun o5 x5 G5 t5 no5 ho5 d5 => ?_
  have Q5 := Q4.same t5
  have nop : o5 ≠ p := Q4.newP no5
  have hodd : ∀ x ∈ (((((oddD0 ++ oddD1) ++ oddD2) ++ oddD3) ++ oddD4) ++ oddD5), Fe 300 5 x := fe_of (by decide +kernel)
  have lodd : ((((((oddD0 ++ oddD1) ++ oddD2) ++ oddD3) ++ oddD4) ++ oddD5)).length = 28 := rfl
  generalize (((((oddD0 ++ oddD1) ++ oddD2) ++ oddD3) ++ oddD4) ++ oddD5) = od at d5 hodd lodd
  refine l_cons ?_
  with_reducible refine s_set 3 ?kw1 ?ndw1 ?hiw1 ?hxw1 ?hsw1 ?hfw1
  case ndw1 => exact scLaw.nd
  case hiw1 => rfl
  case hxw1 => first | exact Or.inl rfl | exact Or.inr rfl
  case hsw1 => rfl
  case hfw1 => first | exact .inl rfl | exact .inr rfl
  refine e_lit (d := .list plD) (.lst (.cons (.tup (.cons (.str _) (.cons (.str _) .nil)) (by decide)) (.cons (.tup (.cons (.str _) (.cons (.str _) .nil)) (by decide)) (.cons (.tup (.cons (.str _) (.cons (.str _) .nil)) (by decide)) (.cons (.tup (.cons (.str _) (.cons (.str _) .nil)) (by decide)) .nil)))) (by decide)) (S := Sp1 p) Q5.dom fun v3 H3 s3 g3 => ?_
  obtain ⟨pl, xp, rfl, hpl, npl, dpl⟩ := DG.lstE g3
  have P3 := Q5.same s3
  have ho3 := s3 _ _ ho5
  have do3 := d5.same s3
  refine l_cons ?_
  with_reducible refine s_set 4 ?kw2 ?ndw2 ?hiw2 ?hxw2 ?hsw2 ?hfw2
  case ndw2 => exact scLaw.nd
  case hiw2 => rfl
  case hxw2 => first | exact Or.inl rfl | exact Or.inr rfl
  case hsw2 => rfl
  case hfw2 => first | exact .inl rfl | exact .inr rfl
  refine e_cat (e_var 2 rfl (e_c0 cE hr (by decide) ⟨rfl, fun ed xe de H4 s4 ned hed ged led hde => ?_⟩))
  have ho4 := s4 _ _ ho3
  have do4 := do3.same s4
  have lo := do4.length
  have le := (ged (Sp1 p)).length
  refine ⟨o5, ed, x5, xe, rfl, rfl, ho4, hed, Nat.le_trans (show x5.length + xe.length ≤ 1000 by omega) (by decide), fun cs hcs => ?_⟩
  have s5 := same_new (o := .lst (x5 ++ xe)) hcs
  have PB := (P3.same s4).same s5
  have hoB := s5 _ _ ho4
  have doB := do4.same s5
  have hplB := s5 _ _ (s4 _ _ hpl)
  have dplB := (dpl.same s4).same s5
  have ncs : cs ≠ p := (P3.same s4).newP hcs
  have hcB : (upd H4 cs (.lst (x5 ++ xe))) cs = some (.lst (x5 ++ xe)) := upd_same
  have dcB : DGs (Sp1 p) (upd H4 cs (.lst (x5 ++ xe))) (x5 ++ xe) (od ++ de) := (do4.append (ged (Sp1 p))).same s5
  have kcB : ∀ d ∈ od ++ de, okS d = true := fun d hd => by
    rcases List.mem_append.mp hd with hd | hd
    · exact (hodd d hd).okS (by decide) (by decide)
    · exact (hde d hd).okS (by decide) (by decide)
  have lcB : (od ++ de).length ≤ 100 := by rw [List.length_append]; omega
  show WL _ _ _ [some (.ref a), some (.ref p), some (.ref o5), some (.ref pl), some (.ref cs), none, none, none, none, none] (upd H4 cs (.lst (x5 ++ xe)))
  generalize (upd H4 cs (.lst (x5 ++ xe))) = HB at PB hoB doB hplB dplB hcB dcB
  generalize x5 ++ xe = xc at hcB dcB
  generalize od ++ de = dc at dcB kcB lcB
  -- the turns
  refine l_cons (s_forR G.range (pg_name (i := 5) scLaw.nd rfl (.inl rfl)) (e_int ⟨24, rfl, by decide, fun i σ H => ∃ t5 t6 t7 cs xc dc, σ = [some (.ref a), some (.ref p), some (.ref o5), some (.ref pl), some (.ref cs), t5, t6, t7, none, none] ∧ But p HB H ∧ Pen H p L (10000 * i) ∧ H cs = some (.lst xc) ∧ DGs (Sp1 p) H xc dc ∧ cs ≠ p ∧ dc.length ≤ 100 + 2 * i ∧ ∀ d ∈ dc, okS d = true, ?_, ?_, ?_⟩) PassesOwn.never)
  · exact ⟨none, none, none, cs, xc, dc, rfl, fun _ _ _ e => e, PB.mono (by omega), hcB, dcB, ncs, by omega, kcB⟩
  · rintro i σ H hi ⟨t5, t6, t7, cs, xc, dc, rfl, b0, P0, hc, gc, ncs, lc, kc⟩
    have ho0 := b0 _ _ nop hoB
    have do0 := DGs.but PB b0 doB
    show WL _ _ _ [some (.ref a), some (.ref p), some (.ref o5), some (.ref pl), some (.ref cs), some (.int (i : Int)), t6, t7, none, none] H
    refine l_cons ?_
    with_reducible refine s_set 6 ?kq6 ?ndq6 ?hiq6 ?hxq6 ?hsq6 ?hfq6
    case ndq6 => exact scLaw.nd
    case hiq6 => rfl
    case hxq6 => first | exact Or.inl rfl | exact Or.inr rfl
    case hsq6 => rfl
    case hfq6 => first | exact .inl rfl | exact .inr rfl
    refine (e_c cS hr (by decide) (a_cons (e_var 1 rfl (a_cons (e_var 3 rfl (a_cons (e_int (a_cons (e_cmp op_eq (e_c cD hr (by decide) (a_cons (e_var 1 rfl (a_cons (e_int (a_nil ⟨p, L, 10000 * i, 2, rfl, P0, by omega, by decide, by decide, fun d1 H1 b1 P1 hd1 => e_int ⟨rfl, a_nil ?_⟩⟩)))))))))))))))
    have dpl1 := DGs.but P0 b1 (DGs.but PB b0 dplB)
    refine ⟨p, L, pl, 10000 * i + 1, xp, plD, _, rfl, P1, by omega, b1 _ _ npl (b0 _ _ npl hplB), DGs.dt dpl1 (by decide +kernel), npl, by decide, by decide, ok_plD, fun v d H2 b2 P2 hv hd => ?_⟩
    have fe0 := feSt hd
    have b02 := (b0.trans b1).trans b2
    show WL _ _ _ [some (.ref a), some (.ref p), some (.ref o5), some (.ref pl), some (.ref cs), some (.int (i : Int)), some v, t7, none, none] H2
    refine l_cons (s_forR G.range (pg_name (i := 7) scLaw.nd rfl (.inl rfl)) (e_c cD hr (by decide) (a_cons (e_var 1 rfl (a_cons (e_int (a_nil ⟨p, L, 10000 * i + 1001, 3, rfl, P2, by omega, by decide, by decide, fun c H3 b3 P3 hc3 => ⟨c, rfl, by omega, fun j σ H' => ∃ t7 v d, σ = [some (.ref a), some (.ref p), some (.ref o5), some (.ref pl), some (.ref cs), some (.int (i : Int)), some v, t7, none, none] ∧ But p H3 H' ∧ Pen H' p L (10000 * i + 1002 + 310 * j) ∧ DG (Sp1 p) H' v d ∧ Fe (fb j) (11 + 5 * j) d, ?_, ?_, ?_⟩⟩)))))) PassesOwn.never)
    · exact ⟨t7, v, d, rfl, fun _ _ _ e => e, P3.mono (by omega), DG.but P2 b3 (DT.dg hv), fe0⟩
    · rintro j σ H4 hj ⟨t7, v, d, rfl, b4, P4, g4, f4⟩
      have b04 := (b02.trans b3).trans b4
      have fj := fb_le j (by omega)
      have f41 := f4.2.1
      have f42 := f4.2.2
      show WL _ _ _ [some (.ref a), some (.ref p), some (.ref o5), some (.ref pl), some (.ref cs), some (.int (i : Int)), some v, some (.int (j : Int)), none, none] H4
      refine l_cons ?_
      with_reducible refine s_set 6 ?kq7 ?ndq7 ?hiq7 ?hxq7 ?hsq7 ?hfq7
      case ndq7 => exact scLaw.nd
      case hiq7 => rfl
      case hxq7 => first | exact Or.inl rfl | exact Or.inr rfl
      case hsq7 => rfl
      case hfq7 => first | exact .inl rfl | exact .inr rfl
      refine (e_c cB hr (by decide) (a_cons (e_var 1 rfl (a_cons (e_var 6 rfl (a_cons (e_var 2 rfl (a_nil ⟨p, L, o5, _, x5, od, v, d, rfl, P4, by omega, b04 _ _ nop hoB, nop, DGs.but PB b04 doB, by omega, by omega, hodd, g4, f4.1, by omega, by omega, fun v' d' H5 b5 P5 g5 f5 => l_nil ?_⟩))))))))
      exact ⟨some (.int (j : Int)), v', d', rfl, b4.trans b5, P5.mono (by omega), g5, f5.mono (by show 2 * szE d + 300 ≤ 2 * fb j + 300; omega) (by omega)⟩
    rintro σ H4 ⟨t7, v, d, rfl, b4, P4, g4, f4⟩
    have b04 := (b02.trans b3).trans b4
    have fj := fb_le c (by omega)
    have f41 := f4.2.1
    have f42 := f4.2.2
    refine l_cons ?_
    with_reducible refine s_set 4 ?kq8 ?ndq8 ?hiq8 ?hxq8 ?hsq8 ?hfq8
    case ndq8 => exact scLaw.nd
    case hiq8 => rfl
    case hxq8 => first | exact Or.inl rfl | exact Or.inr rfl
    case hsq8 => rfl
    case hfq8 => first | exact .inl rfl | exact .inr rfl
    refine e_cat (e_var 4 rfl (e_lst (a_cons (e_var 6 rfl (a_cons (e_c cB hr (by decide) (a_cons (e_var 1 rfl (a_cons (e_c cA hr (by decide) (a_cons (e_var 1 rfl (a_nil ⟨p, L, _, rfl, P4, by omega, fun v5 d5 H5 b5 P5 g5 f5 => a_cons (e_var 2 rfl (a_nil ⟨p, L, o5, _, x5, od, v5, d5, rfl, P5, by omega, (b04.trans b5) _ _ nop hoB, nop, DGs.but PB (b04.trans b5) doB, by omega, by omega, hodd, g5, f5.1, by have := f5.2.1; omega, by have := f5.2.2; omega, fun v6 d6 H6 b6 P6 g6 f6 => a_nil ⟨by show 2 ≤ sizeLine; decide, fun l hl => ?_⟩⟩))⟩)))))))))))))
    have bH : But p H H6 := (((((b1.trans b2).trans b3).trans b4).trans b5).trans b6)
    have hc6 := bH _ _ ncs hc
    have gc6 := DGs.but P0 bH gc
    have g46 := DG.but P4 (b5.trans b6) g4
    have lxc := gc.length
    refine ⟨cs, l, xc, [v, v6], rfl, rfl, same_new hl _ _ hc6, upd_same, Nat.le_trans (show xc.length + 2 ≤ 1000 by omega) (by decide), fun q hq => l_nil ?_⟩
    have sl1 := same_new (o := .lst [v, v6]) hl
    have sl2 := sl1.trans (same_new (o := .lst (xc ++ [v, v6])) hq)
    have f51 := f5.2.1
    have f52 := f5.2.2
    have f61 := f6.2.1
    have f62 := f6.2.2
    refine ⟨some (.int (i : Int)), some v, t7, q, xc ++ [v, v6], dc ++ [d, d6], rfl, (b0.trans bH).trans (But.of sl2), (P6.same sl2).mono (by omega), upd_same, (gc6.append (.cons g46 (.cons g6 .nil))).same sl2, (P6.same sl1).newP hq, by rw [List.length_append]; show dc.length + 2 ≤ _; omega, fun x hx => ?_⟩
    rcases List.mem_append.mp hx with hx | hx
    · exact kc x hx
    · rcases List.mem_cons.mp hx with rfl | hx
      · exact f4.okS (by omega) (by omega)
      · rw [List.mem_singleton.mp hx]
        exact f6.okS (by omega) (by omega)
  rintro σ HD ⟨t5, t6, t7, cs, xc, dc, rfl, b0, P0, hc, gc, ncs, lc, kc⟩
  have lxc := gc.length
  have lS : ∀ {H : Hp}, Same HD H → ∀ a, Sp1 p a → H a ≠ none := fun s => (P0.same s).dom
  refine l_cons (s_forL (pg_name (i := 6) scLaw.nd rfl (.inl rfl)) (e_var 4 rfl ⟨cs, xc, rfl, .inl (.inl hc), fun _ σ H => σ.length = 10 ∧ Same HD H, ⟨rfl, Same.refl _⟩, fun i σ H hi sm => .inl (.inl (sm.2 _ _ hc)), ?_, fun σ H sm => l_one (s_ret (e_bl (q _)))⟩) PassesOwn.never)
  rintro i v σ H hi ⟨len, sm⟩
  obtain ⟨d, hd, hv⟩ := gc.get hi
  have hok := kc d (List.mem_of_getElem? hd)
  have sl : SL (Sp1 p) H (σ.set 6 (some v)) ((List.replicate 10 none).set 6 (some d)) := by
    have := (sl_none (S := Sp1 p) (H := H) (σ := σ) (lS sm)).set (i := 6) (hv.same sm)
    rw [len] at this
    exact this
  refine (ld_cons (ρ1 := [none, none, none, none, none, none, some d, none, some (.str d.shown), none]) (sd_set 8 (d_repr G.repr hG hr.units (d_var 6) (okS_repr hok)) scLaw.nd) (ld_cons (ρ1 := [none, none, none, none, none, none, some d, none, some (.str d.shown), some (.tuple [.bool (stD d), .bool (viewD d), .bool (pathD d)])]) (sd_set 9 (d_tup (ad_cons (d_fn cSt hr (by decide) (d_var 6) hok) (ad_cons (d_fn cVw hr (by decide) (d_var 6) hok) (ad_cons (d_fn cPt hr (by decide) (d_var 6) hok) ad_nil))) (le1 rfl)) scLaw.nd) (ld_cons (ρ1 := [none, none, none, none, none, none, some d, none, some (.str d.shown), some (.tuple [.bool (stD d), .bool (viewD d), .bool (pathD d)])]) (sd_if (k := false) (TD.cast (td_w (wd_or (td_cmp (o_neS hr.units) (d_repr G.repr hG hr.units (d_var 9) (okS_repr (okS_bool3 _ _ _))) (d_repr G.repr hG hr.units (d_tup (ad_cons (d_fnG cSa hr hG (by decide) (d_var 6) hok) (ad_cons (d_fnG cIn hr hG (by decide) (d_var 6) hok) (ad_cons (d_fn cWy hr (by decide) (d_var 6) hok) ad_nil))) (le1 rfl)) (okS_repr (okS_bool3 _ _ _))) ⟨_, rfl, rfl⟩) fun _ => wd_or1 (td_cmp (o_neS hr.units) (d_repr G.repr hG hr.units (d_var 6) (okS_repr hok)) (d_var 8) ⟨_, rfl, rfl⟩))) (by rw [eqS_self, eqS_self]; rfl)) (fun e => by cases e) fun _ => ld_nil) ld_nil)) : LD _ _ _ _) (Sp1 p) _ H _ sl fun σ' H' s' sl' => ⟨sl'.len, sm.trans s'⟩
end
end K04

namespace K04
open PySem PySem.Spec PyProof.Rows L2 My
theorem hget9 : ∀ i, i < 9 → ("abcdefghi" : Str).cps.toList[i]? = some (97 + i) := by decide +kernel
theorem hget5 : ∀ i, i < 5 → ("abcde" : Str).cps.toList[i]? = some (97 + i) := by decide +kernel
section
variable {X : Cx} {a b c : Expr} {σ : L2.St} {H : Hp} {D : Ends} {pos px py pz pt pt2 : Pos} {x y z : Str} {kt k2 : _}
/-- x, y, z = a, b, c -/
theorem s_par3 (i j l : Nat) (h : WA X [a, b, c] σ H fun vs H1 => ∃ u v w, vs = [u, v, w] ∧ D.nx (((σ.set i (some u)).set j (some v)).set l (some w)) H1) (hN : X.N.Nodup) (hij : i ≠ j) (hil : i ≠ l) (hjl : j ≠ l) (hi : X.N[i]? = some x := by rfl) (hj : X.N[j]? = some y := by rfl) (hl : X.N[l]? = some z := by rfl)
    (hx : X.env.scope.names.lookup x = some .local := by rfl) (hy : X.env.scope.names.lookup y = some .local := by rfl) (hz : X.env.scope.names.lookup z = some .local := by rfl)
    (hw : swappedStores [.Tuple [.Name x px, .Name y py, .Name z pz] kt pt] (.Tuple [a, b, c] k2 pt2) X.env = pure (some [x, y, z]) := by rfl)
    (hs : swapsWithSole [.Tuple [.Name x px, .Name y py, .Name z pz] kt pt] (.Tuple [a, b, c] k2 pt2) pos.line X.env = pure false := by rfl) (hc : X.calm = true := by rfl) :
    WS X (.Assign [.Tuple [.Name x px, .Name y py, .Name z pz] kt pt] (.Tuple [a, b, c] k2 pt2) pos) D σ H := toS (ps_par3 hc hN hi hj hl hij hil hjl hx hy hz pA hw hs) h
end
section
variable {P : Program} {w : World} {K : PySem.W.Frag} {mg : Str → Option Value} {base : Heap}
theorem scEdges : FnScope nEdges [] (defScope sEdges) := ⟨rfl, rfl, rfl, by decide +kernel, rfl, by decide +kernel, by decide +kernel⟩
theorem ok_edges {f : Addr} {fd : FuncData} (F : Fun K "_law_edges" "_law_edges" sEdges f fd) (G : Bt w K mg) : FnOk P w K mg base CX0 1 f fd [] spEdges := by
  refine Fun.okW F scEdges (fun vs H Q E h => by rw [h.1]; rfl) (fun cdv B out s H vs Q E hr h => ?_)
  obtain ⟨rfl, q⟩ := h
  refine l_cons ?_
  with_reducible refine s_par3 0 1 2 ?h ?nd ?ij ?il ?jl ?hi ?hj ?hl ?hx ?hy ?hz ?hw ?hs ?hc
  case nd => exact scEdges.nd
  case ij => decide
  case il => decide
  case jl => decide
  case hi => rfl
  case hj => rfl
  case hl => rfl
  case hx => rfl
  case hy => rfl
  case hz => rfl
  case hw => rfl
  case hs => rfl
  case hc => rfl
  refine (a_cons (e_lst (a_nil ⟨Nat.zero_le _, fun L hL => ?_⟩)))
  have dm : ∀ a, SpF L a → (upd H L (.lst [])) a ≠ none := fun a e => by rw [show a = L from e, upd_same]; exact fun z => by cases z
  refine a_cons (e_lit (d := oneD) (.tup (.cons (.str _) (.cons (.tup (.cons .non (.cons (.str _) .nil)) (by decide)) (.cons (.str _) .nil))) (by decide)) (S := SpF L) dm fun v1 H1 s1 g1 => ?_)
  refine a_cons (e_lit (d := srcD0) (.tup (.cons .non (.cons (.str _) (.cons (.str _) .nil))) (by decide)) (S := SpF L) (fun a e z => dm a e (by
    cases hh : (upd H L (.lst [])) a with
    | none => rfl
    | some o => rw [s1 _ _ hh] at z; cases z)) fun v2 H2 s2 g2 => a_nil ⟨_, _, _, rfl, ?_⟩)
  have hL2 : H2 L = some (.lst []) := s2 _ _ (s1 _ _ upd_same)
  have I0 : Ap L okEd [none, some oneD, some srcD0, none, none, none, none, none, none, none] 0 [some (.ref L), some v1, some v2, none, none, none, none, none, none, none] H2 :=
    ⟨(SLs.no (.so (g1.same s2) (.so g2 (.no (.no (.no (.no (.no (.no (.no .nil)))))))))).sl (fun a e => by rw [show a = L from e, hL2]; exact fun z => by cases z), rfl, [], [], hL2, .nil, Nat.le_refl _, fun d h => by cases h⟩
  -- eight, nine
  refine l_cons ((se_for 3 (ρ2 := [none, some oneD, some srcD0, some (.int 9), some (.tuple (wsD 9)), none, none, none, none, none]) (n2 := 8) (ds := [.int 8, .int 9]) (d_lit (.tup (.cons (.int _) (.cons (.int _) .nil)) (by decide))) (.next (n1 := 4) (ρ1 := [none, some oneD, some srcD0, some (.int 8), some (.tuple (wsD 8)), none, none, none, none, none]) ?_ (.next ?_ .done)) (by decide) (pg_name (i := 3) scEdges.nd rfl (.inl rfl)) PassesOwn.never) _ _ _ I0 fun σ3 H3 b3 I3 => ?_)
  · refine le_cons (se_set 4 (d := .tuple (wsD 8)) (d_tupL G.tuple (d_lcR (n := 8) 5 (fun k => .str ⟨#[97 + k]⟩) G.range scEdges.nd (blkOk_by (N := nEdges) (sc := defScope sEdges) (by decide +kernel)) (d_var 3) (by decide) (fun i hi s0 H00 C cl fp => d_ixS (d_str _) (d_var 5) (by decide) (hget9 i (by omega))) (fun _ _ _ _ _ => pg_name (i := 5) scEdges.nd rfl (Or.inl rfl)))) scEdges.nd (by decide)) ?_
    refine le_cons (se_app (d := e1D 8) (d_tup (ad_cons (d_bl false) (ad_cons (d_tupL G.tuple (d_lcT (n := 0) 6 (fun x => .tuple [.str "column", .tuple [.none, x], x]) scEdges.nd (blkOk_by (N := nEdges) (sc := defScope sEdges) (by decide +kernel)) (d_var 4) (le1 rfl) (fun x hx s0 H00 C cl fp => d_tup (ad_cons (d_str _) (ad_cons (d_tup (ad_cons d_non (ad_cons (d_var 6) ad_nil)) (le1 rfl)) (ad_cons (d_var 6) ad_nil))) (le1 rfl)) (fun _ _ _ _ _ => pg_name (i := 6) scEdges.nd rfl (Or.inl rfl)))) (ad_cons (d_tup (ad_cons (d_var 2) ad_nil) (le1 rfl)) (ad_cons (d_tup ad_nil (le1 rfl)) ad_nil)))) (le1 rfl)) (ed1 (by decide +kernel)) (le1 rfl)) ?_
    refine le_cons (se_app (d := e2D 8) (d_tup (ad_cons (d_bl false) (ad_cons (d_tup (ad_cons (d_var 1) ad_nil) (le1 rfl)) (ad_cons (d_tup (ad_cons (d_var 2) ad_nil) (le1 rfl)) (ad_cons (d_mulT (k := 8) (d_tup (ad_cons (d_tup (ad_cons (d_str _) (ad_cons (d_tup (ad_cons d_non (ad_cons (d_str _) ad_nil)) (le1 rfl)) (ad_cons (d_tup (ad_cons (d_str _) (ad_cons (d_str _) ad_nil)) (le1 rfl)) ad_nil))) (le1 rfl)) ad_nil) (le1 rfl)) (d_var 3) (le1 rfl) (le1 rfl) (le1 rfl)) ad_nil)))) (le1 rfl)) (ed1 (by decide +kernel)) (le1 rfl)) ?_
    refine le_cons (se_app (d := e3D 8) (d_tup (ad_cons (d_bl true) (ad_cons (d_tup (ad_cons (d_var 1) ad_nil) (le1 rfl)) (ad_cons (d_tup (ad_cons (d_var 2) ad_nil) (le1 rfl)) (ad_cons (d_tup (ad_cons (d_tup (ad_cons (d_str _) (ad_cons (d_tup (ad_cons d_non (ad_cons (d_str _) ad_nil)) (le1 rfl)) (ad_cons (d_var 4) ad_nil))) (le1 rfl)) ad_nil) (le1 rfl)) ad_nil)))) (le1 rfl)) (ed1 (by decide +kernel)) (le1 rfl)) ?_
    exact le_cons (se_app (d := e4D 8) (d_tup (ad_cons (d_bl true) (ad_cons (d_tup (ad_cons (d_tup (ad_cons (d_str _) (ad_cons (d_mulS (z := "a") (k := 8) (d_str _) (d_var 3) (by decide) (by decide) (by decide) (by decide)) (ad_cons (d_str _) ad_nil))) (le1 rfl)) ad_nil) (le1 rfl)) (ad_cons (d_tup (ad_cons (d_var 2) ad_nil) (le1 rfl)) (ad_cons (d_tup ad_nil (le1 rfl)) ad_nil)))) (le1 rfl)) (ed1 (by decide +kernel)) (le1 rfl)) le_nil
  · refine le_cons (se_set 4 (d := .tuple (wsD 9)) (d_tupL G.tuple (d_lcR (n := 9) 5 (fun k => .str ⟨#[97 + k]⟩) G.range scEdges.nd (blkOk_by (N := nEdges) (sc := defScope sEdges) (by decide +kernel)) (d_var 3) (by decide) (fun i hi s0 H00 C cl fp => d_ixS (d_str _) (d_var 5) (by decide) (hget9 i (by omega))) (fun _ _ _ _ _ => pg_name (i := 5) scEdges.nd rfl (Or.inl rfl)))) scEdges.nd (by decide)) ?_
    refine le_cons (se_app (d := e1D 9) (d_tup (ad_cons (d_bl false) (ad_cons (d_tupL G.tuple (d_lcT (n := 0) 6 (fun x => .tuple [.str "column", .tuple [.none, x], x]) scEdges.nd (blkOk_by (N := nEdges) (sc := defScope sEdges) (by decide +kernel)) (d_var 4) (le1 rfl) (fun x hx s0 H00 C cl fp => d_tup (ad_cons (d_str _) (ad_cons (d_tup (ad_cons d_non (ad_cons (d_var 6) ad_nil)) (le1 rfl)) (ad_cons (d_var 6) ad_nil))) (le1 rfl)) (fun _ _ _ _ _ => pg_name (i := 6) scEdges.nd rfl (Or.inl rfl)))) (ad_cons (d_tup (ad_cons (d_var 2) ad_nil) (le1 rfl)) (ad_cons (d_tup ad_nil (le1 rfl)) ad_nil)))) (le1 rfl)) (ed1 (by decide +kernel)) (le1 rfl)) ?_
    refine le_cons (se_app (d := e2D 9) (d_tup (ad_cons (d_bl false) (ad_cons (d_tup (ad_cons (d_var 1) ad_nil) (le1 rfl)) (ad_cons (d_tup (ad_cons (d_var 2) ad_nil) (le1 rfl)) (ad_cons (d_mulT (k := 9) (d_tup (ad_cons (d_tup (ad_cons (d_str _) (ad_cons (d_tup (ad_cons d_non (ad_cons (d_str _) ad_nil)) (le1 rfl)) (ad_cons (d_tup (ad_cons (d_str _) (ad_cons (d_str _) ad_nil)) (le1 rfl)) ad_nil))) (le1 rfl)) ad_nil) (le1 rfl)) (d_var 3) (le1 rfl) (le1 rfl) (le1 rfl)) ad_nil)))) (le1 rfl)) (ed1 (by decide +kernel)) (le1 rfl)) ?_
    refine le_cons (se_app (d := e3D 9) (d_tup (ad_cons (d_bl true) (ad_cons (d_tup (ad_cons (d_var 1) ad_nil) (le1 rfl)) (ad_cons (d_tup (ad_cons (d_var 2) ad_nil) (le1 rfl)) (ad_cons (d_tup (ad_cons (d_tup (ad_cons (d_str _) (ad_cons (d_tup (ad_cons d_non (ad_cons (d_str _) ad_nil)) (le1 rfl)) (ad_cons (d_var 4) ad_nil))) (le1 rfl)) ad_nil) (le1 rfl)) ad_nil)))) (le1 rfl)) (ed1 (by decide +kernel)) (le1 rfl)) ?_
    exact le_cons (se_app (d := e4D 9) (d_tup (ad_cons (d_bl true) (ad_cons (d_tup (ad_cons (d_tup (ad_cons (d_str _) (ad_cons (d_mulS (z := "a") (k := 9) (d_str _) (d_var 3) (by decide) (by decide) (by decide) (by decide)) (ad_cons (d_str _) ad_nil))) (le1 rfl)) ad_nil) (le1 rfl)) (ad_cons (d_tup (ad_cons (d_var 2) ad_nil) (le1 rfl)) (ad_cons (d_tup ad_nil (le1 rfl)) ad_nil)))) (le1 rfl)) (ed1 (by decide +kernel)) (le1 rfl)) le_nil
  -- four, five
  refine l_cons ((se_for 3 (ρ2 := [none, some oneD, some srcD0, some (.int 5), some (.tuple (wsD 9)), none, none, none, none, none]) (n2 := 10) (ds := [.int 4, .int 5]) (d_lit (.tup (.cons (.int _) (.cons (.int _) .nil)) (by decide))) (.next (n1 := 9) (ρ1 := [none, some oneD, some srcD0, some (.int 4), some (.tuple (wsD 9)), none, none, none, none, none]) ?_ (.next ?_ .done)) (by decide) (pg_name (i := 3) scEdges.nd rfl (.inl rfl)) PassesOwn.never) _ _ _ I3 fun σ4 H4 b4 I4 => ?_)
  · exact le_cons (se_app (d := e5D 4) (d_tup (ad_cons (d_bl false) (ad_cons (d_tup (ad_cons (d_var 1) ad_nil) (le1 rfl)) (ad_cons (d_tupL G.tuple (d_lcR (n := 4) 5 (fun k => .tuple [.none, .str "t", .str ⟨#[97 + k]⟩]) G.range scEdges.nd (blkOk_by (N := nEdges) (sc := defScope sEdges) (by decide +kernel)) (d_var 3) (by decide) (fun i hi s0 H00 C cl fp => d_tup (ad_cons d_non (ad_cons (d_str _) (ad_cons (d_ixS (d_str _) (d_var 5) (by decide) (hget5 i (by omega))) ad_nil))) (le1 rfl)) (fun _ _ _ _ _ => pg_name (i := 5) scEdges.nd rfl (Or.inl rfl)))) (ad_cons (d_tup ad_nil (le1 rfl)) ad_nil)))) (le1 rfl)) (ed1 (by decide +kernel)) (le1 rfl)) le_nil
  · exact le_cons (se_app (d := e5D 5) (d_tup (ad_cons (d_bl false) (ad_cons (d_tup (ad_cons (d_var 1) ad_nil) (le1 rfl)) (ad_cons (d_tupL G.tuple (d_lcR (n := 5) 5 (fun k => .tuple [.none, .str "t", .str ⟨#[97 + k]⟩]) G.range scEdges.nd (blkOk_by (N := nEdges) (sc := defScope sEdges) (by decide +kernel)) (d_var 3) (by decide) (fun i hi s0 H00 C cl fp => d_tup (ad_cons d_non (ad_cons (d_str _) (ad_cons (d_ixS (d_str _) (d_var 5) (by decide) (hget5 i (by omega))) ad_nil))) (le1 rfl)) (fun _ _ _ _ _ => pg_name (i := 5) scEdges.nd rfl (Or.inl rfl)))) (ad_cons (d_tup ad_nil (le1 rfl)) ad_nil)))) (le1 rfl)) (ed1 (by decide +kernel)) (le1 rfl)) le_nil
  -- calls in calls
  refine l_cons ((se_for 7 (ρ2 := [none, some oneD, some srcD0, some (.int 5), some (.tuple (wsD 9)), none, none, some (.tuple [.tuple [.none, .str "a"]]), some (inD [.tuple [.none, .str "a"]] 4), some (.int 4)]) (n2 := 22) (ds := [.tuple [], .tuple [.str "v"], .tuple [.tuple [.none, .str "a"]]]) (d_lit (.tup (.cons (.tup .nil (by decide)) (.cons (.tup (.cons (.str _) .nil) (by decide)) (.cons (.tup (.cons (.tup (.cons .non (.cons (.str _) .nil)) (by decide)) .nil) (by decide)) .nil))) (by decide))) (.next (n1 := 14) (ρ1 := [none, some oneD, some srcD0, some (.int 5), some (.tuple (wsD 9)), none, none, some (.tuple []), some (inD [] 4), some (.int 4)]) ?_ (.next (n1 := 18) (ρ1 := [none, some oneD, some srcD0, some (.int 5), some (.tuple (wsD 9)), none, none, some (.tuple [.str "v"]), some (inD [.str "v"] 4), some (.int 4)]) ?_ (.next ?_ .done))) (by decide) (pg_name (i := 7) scEdges.nd rfl (.inl rfl)) PassesOwn.never) _ _ _ I4 fun σ5 H5 b5 I5 => ?_)
  · refine le_cons (se_set 8 (d := inD [] 0) (d_tup (ad_cons d_non (ad_cons (d_str _) ad_nil)) (le1 rfl)) scEdges.nd (by decide)) ?_
    refine le_cons (se_for 9 (ρ2 := [none, some oneD, some srcD0, some (.int 5), some (.tuple (wsD 9)), none, none, some (.tuple []), some (inD [] 4), some (.int 4)]) (n2 := 14) (ds := [.int 1, .int 2, .int 3, .int 4]) (d_lit (.tup (.cons (.int _) (.cons (.int _) (.cons (.int _) (.cons (.int _) .nil)))) (by decide))) (.next (n1 := 11) (ρ1 := [none, some oneD, some srcD0, some (.int 5), some (.tuple (wsD 9)), none, none, some (.tuple []), some (inD [] 1), some (.int 1)]) ?_ (.next (n1 := 12) (ρ1 := [none, some oneD, some srcD0, some (.int 5), some (.tuple (wsD 9)), none, none, some (.tuple []), some (inD [] 2), some (.int 2)]) ?_ (.next (n1 := 13) (ρ1 := [none, some oneD, some srcD0, some (.int 5), some (.tuple (wsD 9)), none, none, some (.tuple []), some (inD [] 3), some (.int 3)]) ?_ (.next ?_ .done)))) (by decide) (pg_name (i := 9) scEdges.nd rfl (.inl rfl)) PassesOwn.never) le_nil
    · refine le_cons (se_set 8 (d := inD [] 1) (d_tup (ad_cons (d_str _) (ad_cons d_non (ad_cons (d_str _) (ad_cons (d_catT (ds := []) (ds2 := [inD [] 0]) (d_var 7) (d_tup (ad_cons (d_var 8) ad_nil) (le1 rfl)) (by decide)) ad_nil)))) (le1 rfl)) scEdges.nd (by decide)) ?_
      exact le_cons (se_app (d := e6D (inD [] 1)) (d_tup (ad_cons (d_bl false) (ad_cons (d_tup (ad_cons (d_tup (ad_cons (d_str _) (ad_cons (d_var 8) (ad_cons (d_str _) ad_nil))) (le1 rfl)) ad_nil) (le1 rfl)) (ad_cons (d_tup (ad_cons (d_var 2) ad_nil) (le1 rfl)) (ad_cons (d_tup ad_nil (le1 rfl)) ad_nil)))) (le1 rfl)) (ed1 (by decide +kernel)) (le1 rfl)) le_nil
    · refine le_cons (se_set 8 (d := inD [] 2) (d_tup (ad_cons (d_str _) (ad_cons d_non (ad_cons (d_str _) (ad_cons (d_catT (ds := []) (ds2 := [inD [] 1]) (d_var 7) (d_tup (ad_cons (d_var 8) ad_nil) (le1 rfl)) (by decide)) ad_nil)))) (le1 rfl)) scEdges.nd (by decide)) ?_
      exact le_cons (se_app (d := e6D (inD [] 2)) (d_tup (ad_cons (d_bl false) (ad_cons (d_tup (ad_cons (d_tup (ad_cons (d_str _) (ad_cons (d_var 8) (ad_cons (d_str _) ad_nil))) (le1 rfl)) ad_nil) (le1 rfl)) (ad_cons (d_tup (ad_cons (d_var 2) ad_nil) (le1 rfl)) (ad_cons (d_tup ad_nil (le1 rfl)) ad_nil)))) (le1 rfl)) (ed1 (by decide +kernel)) (le1 rfl)) le_nil
    · refine le_cons (se_set 8 (d := inD [] 3) (d_tup (ad_cons (d_str _) (ad_cons d_non (ad_cons (d_str _) (ad_cons (d_catT (ds := []) (ds2 := [inD [] 2]) (d_var 7) (d_tup (ad_cons (d_var 8) ad_nil) (le1 rfl)) (by decide)) ad_nil)))) (le1 rfl)) scEdges.nd (by decide)) ?_
      exact le_cons (se_app (d := e6D (inD [] 3)) (d_tup (ad_cons (d_bl false) (ad_cons (d_tup (ad_cons (d_tup (ad_cons (d_str _) (ad_cons (d_var 8) (ad_cons (d_str _) ad_nil))) (le1 rfl)) ad_nil) (le1 rfl)) (ad_cons (d_tup (ad_cons (d_var 2) ad_nil) (le1 rfl)) (ad_cons (d_tup ad_nil (le1 rfl)) ad_nil)))) (le1 rfl)) (ed1 (by decide +kernel)) (le1 rfl)) le_nil
    · refine le_cons (se_set 8 (d := inD [] 4) (d_tup (ad_cons (d_str _) (ad_cons d_non (ad_cons (d_str _) (ad_cons (d_catT (ds := []) (ds2 := [inD [] 3]) (d_var 7) (d_tup (ad_cons (d_var 8) ad_nil) (le1 rfl)) (by decide)) ad_nil)))) (le1 rfl)) scEdges.nd (by decide)) ?_
      exact le_cons (se_app (d := e6D (inD [] 4)) (d_tup (ad_cons (d_bl false) (ad_cons (d_tup (ad_cons (d_tup (ad_cons (d_str _) (ad_cons (d_var 8) (ad_cons (d_str _) ad_nil))) (le1 rfl)) ad_nil) (le1 rfl)) (ad_cons (d_tup (ad_cons (d_var 2) ad_nil) (le1 rfl)) (ad_cons (d_tup ad_nil (le1 rfl)) ad_nil)))) (le1 rfl)) (ed1 (by decide +kernel)) (le1 rfl)) le_nil
  · refine le_cons (se_set 8 (d := inD [.str "v"] 0) (d_tup (ad_cons d_non (ad_cons (d_str _) ad_nil)) (le1 rfl)) scEdges.nd (by decide)) ?_
    refine le_cons (se_for 9 (ρ2 := [none, some oneD, some srcD0, some (.int 5), some (.tuple (wsD 9)), none, none, some (.tuple [.str "v"]), some (inD [.str "v"] 4), some (.int 4)]) (n2 := 18) (ds := [.int 1, .int 2, .int 3, .int 4]) (d_lit (.tup (.cons (.int _) (.cons (.int _) (.cons (.int _) (.cons (.int _) .nil)))) (by decide))) (.next (n1 := 15) (ρ1 := [none, some oneD, some srcD0, some (.int 5), some (.tuple (wsD 9)), none, none, some (.tuple [.str "v"]), some (inD [.str "v"] 1), some (.int 1)]) ?_ (.next (n1 := 16) (ρ1 := [none, some oneD, some srcD0, some (.int 5), some (.tuple (wsD 9)), none, none, some (.tuple [.str "v"]), some (inD [.str "v"] 2), some (.int 2)]) ?_ (.next (n1 := 17) (ρ1 := [none, some oneD, some srcD0, some (.int 5), some (.tuple (wsD 9)), none, none, some (.tuple [.str "v"]), some (inD [.str "v"] 3), some (.int 3)]) ?_ (.next ?_ .done)))) (by decide) (pg_name (i := 9) scEdges.nd rfl (.inl rfl)) PassesOwn.never) le_nil
    · refine le_cons (se_set 8 (d := inD [.str "v"] 1) (d_tup (ad_cons (d_str _) (ad_cons d_non (ad_cons (d_str _) (ad_cons (d_catT (ds := [.str "v"]) (ds2 := [inD [.str "v"] 0]) (d_var 7) (d_tup (ad_cons (d_var 8) ad_nil) (le1 rfl)) (by decide)) ad_nil)))) (le1 rfl)) scEdges.nd (by decide)) ?_
      exact le_cons (se_app (d := e6D (inD [.str "v"] 1)) (d_tup (ad_cons (d_bl false) (ad_cons (d_tup (ad_cons (d_tup (ad_cons (d_str _) (ad_cons (d_var 8) (ad_cons (d_str _) ad_nil))) (le1 rfl)) ad_nil) (le1 rfl)) (ad_cons (d_tup (ad_cons (d_var 2) ad_nil) (le1 rfl)) (ad_cons (d_tup ad_nil (le1 rfl)) ad_nil)))) (le1 rfl)) (ed1 (by decide +kernel)) (le1 rfl)) le_nil
    · refine le_cons (se_set 8 (d := inD [.str "v"] 2) (d_tup (ad_cons (d_str _) (ad_cons d_non (ad_cons (d_str _) (ad_cons (d_catT (ds := [.str "v"]) (ds2 := [inD [.str "v"] 1]) (d_var 7) (d_tup (ad_cons (d_var 8) ad_nil) (le1 rfl)) (by decide)) ad_nil)))) (le1 rfl)) scEdges.nd (by decide)) ?_
      exact le_cons (se_app (d := e6D (inD [.str "v"] 2)) (d_tup (ad_cons (d_bl false) (ad_cons (d_tup (ad_cons (d_tup (ad_cons (d_str _) (ad_cons (d_var 8) (ad_cons (d_str _) ad_nil))) (le1 rfl)) ad_nil) (le1 rfl)) (ad_cons (d_tup (ad_cons (d_var 2) ad_nil) (le1 rfl)) (ad_cons (d_tup ad_nil (le1 rfl)) ad_nil)))) (le1 rfl)) (ed1 (by decide +kernel)) (le1 rfl)) le_nil
    · refine le_cons (se_set 8 (d := inD [.str "v"] 3) (d_tup (ad_cons (d_str _) (ad_cons d_non (ad_cons (d_str _) (ad_cons (d_catT (ds := [.str "v"]) (ds2 := [inD [.str "v"] 2]) (d_var 7) (d_tup (ad_cons (d_var 8) ad_nil) (le1 rfl)) (by decide)) ad_nil)))) (le1 rfl)) scEdges.nd (by decide)) ?_
      exact le_cons (se_app (d := e6D (inD [.str "v"] 3)) (d_tup (ad_cons (d_bl false) (ad_cons (d_tup (ad_cons (d_tup (ad_cons (d_str _) (ad_cons (d_var 8) (ad_cons (d_str _) ad_nil))) (le1 rfl)) ad_nil) (le1 rfl)) (ad_cons (d_tup (ad_cons (d_var 2) ad_nil) (le1 rfl)) (ad_cons (d_tup ad_nil (le1 rfl)) ad_nil)))) (le1 rfl)) (ed1 (by decide +kernel)) (le1 rfl)) le_nil
    · refine le_cons (se_set 8 (d := inD [.str "v"] 4) (d_tup (ad_cons (d_str _) (ad_cons d_non (ad_cons (d_str _) (ad_cons (d_catT (ds := [.str "v"]) (ds2 := [inD [.str "v"] 3]) (d_var 7) (d_tup (ad_cons (d_var 8) ad_nil) (le1 rfl)) (by decide)) ad_nil)))) (le1 rfl)) scEdges.nd (by decide)) ?_
      exact le_cons (se_app (d := e6D (inD [.str "v"] 4)) (d_tup (ad_cons (d_bl false) (ad_cons (d_tup (ad_cons (d_tup (ad_cons (d_str _) (ad_cons (d_var 8) (ad_cons (d_str _) ad_nil))) (le1 rfl)) ad_nil) (le1 rfl)) (ad_cons (d_tup (ad_cons (d_var 2) ad_nil) (le1 rfl)) (ad_cons (d_tup ad_nil (le1 rfl)) ad_nil)))) (le1 rfl)) (ed1 (by decide +kernel)) (le1 rfl)) le_nil
  · refine le_cons (se_set 8 (d := inD [.tuple [.none, .str "a"]] 0) (d_tup (ad_cons d_non (ad_cons (d_str _) ad_nil)) (le1 rfl)) scEdges.nd (by decide)) ?_
    refine le_cons (se_for 9 (ρ2 := [none, some oneD, some srcD0, some (.int 5), some (.tuple (wsD 9)), none, none, some (.tuple [.tuple [.none, .str "a"]]), some (inD [.tuple [.none, .str "a"]] 4), some (.int 4)]) (n2 := 22) (ds := [.int 1, .int 2, .int 3, .int 4]) (d_lit (.tup (.cons (.int _) (.cons (.int _) (.cons (.int _) (.cons (.int _) .nil)))) (by decide))) (.next (n1 := 19) (ρ1 := [none, some oneD, some srcD0, some (.int 5), some (.tuple (wsD 9)), none, none, some (.tuple [.tuple [.none, .str "a"]]), some (inD [.tuple [.none, .str "a"]] 1), some (.int 1)]) ?_ (.next (n1 := 20) (ρ1 := [none, some oneD, some srcD0, some (.int 5), some (.tuple (wsD 9)), none, none, some (.tuple [.tuple [.none, .str "a"]]), some (inD [.tuple [.none, .str "a"]] 2), some (.int 2)]) ?_ (.next (n1 := 21) (ρ1 := [none, some oneD, some srcD0, some (.int 5), some (.tuple (wsD 9)), none, none, some (.tuple [.tuple [.none, .str "a"]]), some (inD [.tuple [.none, .str "a"]] 3), some (.int 3)]) ?_ (.next ?_ .done)))) (by decide) (pg_name (i := 9) scEdges.nd rfl (.inl rfl)) PassesOwn.never) le_nil
    · refine le_cons (se_set 8 (d := inD [.tuple [.none, .str "a"]] 1) (d_tup (ad_cons (d_str _) (ad_cons d_non (ad_cons (d_str _) (ad_cons (d_catT (ds := [.tuple [.none, .str "a"]]) (ds2 := [inD [.tuple [.none, .str "a"]] 0]) (d_var 7) (d_tup (ad_cons (d_var 8) ad_nil) (le1 rfl)) (by decide)) ad_nil)))) (le1 rfl)) scEdges.nd (by decide)) ?_
      exact le_cons (se_app (d := e6D (inD [.tuple [.none, .str "a"]] 1)) (d_tup (ad_cons (d_bl false) (ad_cons (d_tup (ad_cons (d_tup (ad_cons (d_str _) (ad_cons (d_var 8) (ad_cons (d_str _) ad_nil))) (le1 rfl)) ad_nil) (le1 rfl)) (ad_cons (d_tup (ad_cons (d_var 2) ad_nil) (le1 rfl)) (ad_cons (d_tup ad_nil (le1 rfl)) ad_nil)))) (le1 rfl)) (ed1 (by decide +kernel)) (le1 rfl)) le_nil
    · refine le_cons (se_set 8 (d := inD [.tuple [.none, .str "a"]] 2) (d_tup (ad_cons (d_str _) (ad_cons d_non (ad_cons (d_str _) (ad_cons (d_catT (ds := [.tuple [.none, .str "a"]]) (ds2 := [inD [.tuple [.none, .str "a"]] 1]) (d_var 7) (d_tup (ad_cons (d_var 8) ad_nil) (le1 rfl)) (by decide)) ad_nil)))) (le1 rfl)) scEdges.nd (by decide)) ?_
      exact le_cons (se_app (d := e6D (inD [.tuple [.none, .str "a"]] 2)) (d_tup (ad_cons (d_bl false) (ad_cons (d_tup (ad_cons (d_tup (ad_cons (d_str _) (ad_cons (d_var 8) (ad_cons (d_str _) ad_nil))) (le1 rfl)) ad_nil) (le1 rfl)) (ad_cons (d_tup (ad_cons (d_var 2) ad_nil) (le1 rfl)) (ad_cons (d_tup ad_nil (le1 rfl)) ad_nil)))) (le1 rfl)) (ed1 (by decide +kernel)) (le1 rfl)) le_nil
    · refine le_cons (se_set 8 (d := inD [.tuple [.none, .str "a"]] 3) (d_tup (ad_cons (d_str _) (ad_cons d_non (ad_cons (d_str _) (ad_cons (d_catT (ds := [.tuple [.none, .str "a"]]) (ds2 := [inD [.tuple [.none, .str "a"]] 2]) (d_var 7) (d_tup (ad_cons (d_var 8) ad_nil) (le1 rfl)) (by decide)) ad_nil)))) (le1 rfl)) scEdges.nd (by decide)) ?_
      exact le_cons (se_app (d := e6D (inD [.tuple [.none, .str "a"]] 3)) (d_tup (ad_cons (d_bl false) (ad_cons (d_tup (ad_cons (d_tup (ad_cons (d_str _) (ad_cons (d_var 8) (ad_cons (d_str _) ad_nil))) (le1 rfl)) ad_nil) (le1 rfl)) (ad_cons (d_tup (ad_cons (d_var 2) ad_nil) (le1 rfl)) (ad_cons (d_tup ad_nil (le1 rfl)) ad_nil)))) (le1 rfl)) (ed1 (by decide +kernel)) (le1 rfl)) le_nil
    · refine le_cons (se_set 8 (d := inD [.tuple [.none, .str "a"]] 4) (d_tup (ad_cons (d_str _) (ad_cons d_non (ad_cons (d_str _) (ad_cons (d_catT (ds := [.tuple [.none, .str "a"]]) (ds2 := [inD [.tuple [.none, .str "a"]] 3]) (d_var 7) (d_tup (ad_cons (d_var 8) ad_nil) (le1 rfl)) (by decide)) ad_nil)))) (le1 rfl)) scEdges.nd (by decide)) ?_
      exact le_cons (se_app (d := e6D (inD [.tuple [.none, .str "a"]] 4)) (d_tup (ad_cons (d_bl false) (ad_cons (d_tup (ad_cons (d_tup (ad_cons (d_str _) (ad_cons (d_var 8) (ad_cons (d_str _) ad_nil))) (le1 rfl)) ad_nil) (le1 rfl)) (ad_cons (d_tup (ad_cons (d_var 2) ad_nil) (le1 rfl)) (ad_cons (d_tup ad_nil (le1 rfl)) ad_nil)))) (le1 rfl)) (ed1 (by decide +kernel)) (le1 rfl)) le_nil
  -- none to three
  refine l_cons ((se_for 3 (ρ2 := [none, some oneD, some srcD0, some (.int 3), some (.tuple (wsD 9)), none, none, some (.tuple [.tuple [.none, .str "a"]]), some (inD [.tuple [.none, .str "a"]] 4), some (.int 4)]) (n2 := 26) (ds := [.int 0, .int 1, .int 2, .int 3]) (d_lit (.tup (.cons (.int _) (.cons (.int _) (.cons (.int _) (.cons (.int _) .nil)))) (by decide))) (.next (n1 := 23) (ρ1 := [none, some oneD, some srcD0, some (.int 0), some (.tuple (wsD 9)), none, none, some (.tuple [.tuple [.none, .str "a"]]), some (inD [.tuple [.none, .str "a"]] 4), some (.int 4)]) ?_ (.next (n1 := 24) (ρ1 := [none, some oneD, some srcD0, some (.int 1), some (.tuple (wsD 9)), none, none, some (.tuple [.tuple [.none, .str "a"]]), some (inD [.tuple [.none, .str "a"]] 4), some (.int 4)]) ?_ (.next (n1 := 25) (ρ1 := [none, some oneD, some srcD0, some (.int 2), some (.tuple (wsD 9)), none, none, some (.tuple [.tuple [.none, .str "a"]]), some (inD [.tuple [.none, .str "a"]] 4), some (.int 4)]) ?_ (.next ?_ .done)))) (by decide) (pg_name (i := 3) scEdges.nd rfl (.inl rfl)) PassesOwn.never) _ _ _ I5 fun σ6 H6 b6 I6 => ?_)
  · exact le_cons (se_app (d := e7D 0) (d_tup (ad_cons (d_bl false) (ad_cons (d_tup (ad_cons (d_tup (ad_cons (d_str _) (ad_cons (d_tup (ad_cons (d_str _) (ad_cons (d_str _) (ad_cons (d_str _) (ad_cons (d_mulT (k := 0) (d_tup (ad_cons (d_tup (ad_cons d_non (ad_cons (d_str _) ad_nil)) (le1 rfl)) ad_nil) (le1 rfl)) (d_var 3) (le1 rfl) (le1 rfl) (le1 rfl)) ad_nil)))) (le1 rfl)) (ad_cons (d_str _) ad_nil))) (le1 rfl)) ad_nil) (le1 rfl)) (ad_cons (d_tup (ad_cons (d_var 2) ad_nil) (le1 rfl)) (ad_cons (d_tup ad_nil (le1 rfl)) ad_nil)))) (le1 rfl)) (ed1 (by decide +kernel)) (le1 rfl)) le_nil
  · exact le_cons (se_app (d := e7D 1) (d_tup (ad_cons (d_bl false) (ad_cons (d_tup (ad_cons (d_tup (ad_cons (d_str _) (ad_cons (d_tup (ad_cons (d_str _) (ad_cons (d_str _) (ad_cons (d_str _) (ad_cons (d_mulT (k := 1) (d_tup (ad_cons (d_tup (ad_cons d_non (ad_cons (d_str _) ad_nil)) (le1 rfl)) ad_nil) (le1 rfl)) (d_var 3) (le1 rfl) (le1 rfl) (le1 rfl)) ad_nil)))) (le1 rfl)) (ad_cons (d_str _) ad_nil))) (le1 rfl)) ad_nil) (le1 rfl)) (ad_cons (d_tup (ad_cons (d_var 2) ad_nil) (le1 rfl)) (ad_cons (d_tup ad_nil (le1 rfl)) ad_nil)))) (le1 rfl)) (ed1 (by decide +kernel)) (le1 rfl)) le_nil
  · exact le_cons (se_app (d := e7D 2) (d_tup (ad_cons (d_bl false) (ad_cons (d_tup (ad_cons (d_tup (ad_cons (d_str _) (ad_cons (d_tup (ad_cons (d_str _) (ad_cons (d_str _) (ad_cons (d_str _) (ad_cons (d_mulT (k := 2) (d_tup (ad_cons (d_tup (ad_cons d_non (ad_cons (d_str _) ad_nil)) (le1 rfl)) ad_nil) (le1 rfl)) (d_var 3) (le1 rfl) (le1 rfl) (le1 rfl)) ad_nil)))) (le1 rfl)) (ad_cons (d_str _) ad_nil))) (le1 rfl)) ad_nil) (le1 rfl)) (ad_cons (d_tup (ad_cons (d_var 2) ad_nil) (le1 rfl)) (ad_cons (d_tup ad_nil (le1 rfl)) ad_nil)))) (le1 rfl)) (ed1 (by decide +kernel)) (le1 rfl)) le_nil
  · exact le_cons (se_app (d := e7D 3) (d_tup (ad_cons (d_bl false) (ad_cons (d_tup (ad_cons (d_tup (ad_cons (d_str _) (ad_cons (d_tup (ad_cons (d_str _) (ad_cons (d_str _) (ad_cons (d_str _) (ad_cons (d_mulT (k := 3) (d_tup (ad_cons (d_tup (ad_cons d_non (ad_cons (d_str _) ad_nil)) (le1 rfl)) ad_nil) (le1 rfl)) (d_var 3) (le1 rfl) (le1 rfl) (le1 rfl)) ad_nil)))) (le1 rfl)) (ad_cons (d_str _) ad_nil))) (le1 rfl)) ad_nil) (le1 rfl)) (ad_cons (d_tup (ad_cons (d_var 2) ad_nil) (le1 rfl)) (ad_cons (d_tup ad_nil (le1 rfl)) ad_nil)))) (le1 rfl)) (ed1 (by decide +kernel)) (le1 rfl)) le_nil
  obtain ⟨xs, ds, hF, hg, hl, hok⟩ := I6.lst
  have sm : Same H H6 := fun b o e => by
    have nb : b ≠ L := ne_of_none e hL
    exact b6 _ _ nb (b5 _ _ nb (b4 _ _ nb (b3 _ _ nb (s2 _ _ (s1 _ _ (same_new hL _ _ e))))))
  exact l_one (s_ret (e_var 0 I6.at0 (q L xs ds H6 sm hL hF (fun S => DGs.free hg (okDs_of fun d hd => (hok d hd).2)) (by omega) fun d hd => (hok d hd).1)))
end
end K04

namespace K04
open PySem PySem.Spec PyProof.Rows L2 My
/-! ### what the top has written -/
structure Wr (K : PySem.W.Frag) (x : Str) (st : Stmt) (f : Addr) (fd : FuncData) : Prop where
  fn : Fun K x x st f fd
  a : PySem.W.nsIn K mainGlobals x = some (some (.ref f))
theorem Wr.mg {K : PySem.W.Frag} {x : Str} {st : Stmt} {f : Addr} {fd : FuncData} {h : Heap} {mg : Str → Option Value} (W : Wr K x st f fd) (X : K.In h) (G : h.Ns mainGlobals mg) : mg x = some (.ref f) := PySem.W.mg_of X G W.a
theorem wr_mk {K : PySem.W.Frag} {x : Str} {st : Stmt} {f : Addr} {oc : Value} {od an : Option Addr} {osl : Array (Option Value)} {kV doc pm cdv ct : Value} (a : PySem.W.nsIn K mainGlobals x = some (some (.ref f))) (l : K.lookup f = some ⟨oc, od, .func (PySem.W.fnOf x x (defArgs st) (defBody st) (defScope st) .none kV doc pm an cdv ct), osl⟩)
    (c : PySem.W.codeIn K cdv x = true) (k : PySem.W.keepIn K (.ref f) = true) : ∃ fd, Wr K x st f fd := ⟨_, fun_mk (st := st) l c k, a⟩
theorem cst_mk {K : PySem.W.Frag} {n : Str} {v : V} {u : Value} (a : PySem.W.nsIn K mainGlobals n = some (some u)) (b : RelV v u) : ∃ u, PySem.W.nsIn K mainGlobals n = some (some u) ∧ RelV v u := ⟨u, a, b⟩
theorem tup_mk {K : PySem.W.Frag} {n : Str} {xs : List V} {a : Addr} {oc : Value} {od : Option Addr} {it : Array Value} {m : Nat} {osl : Array (Option Value)} (e : PySem.W.nsIn K mainGlobals n = some (some (.ref a))) (l : K.lookup a = some ⟨oc, od, .seq it m, osl⟩)
    (h1 : oc = .type "tuple") (h2 : it.size ≤ sizeLine) (h3 : Vals xs it.toList) : ∃ a, PySem.W.nsIn K mainGlobals n = some (some (.ref a)) ∧ ∀ H, SqT K H a xs := ⟨a, e, fun _ => .inr ⟨_, it, m, l, h1, rfl, h2, h3⟩⟩
theorem all_mk {l : PySem.W.OpenLaw} {w : World} {K : PySem.W.Frag} {h : Heap} {mg : Str → Option Value} {fa : Addr} (X : K.In h) (G : h.Ns mainGlobals mg) (hfa : mg "law" = some (.ref fa))
    (w_tupOf : ∃ f fd, Wr K "is_tuple_of" sTupOf f fd) (w_diff : ∃ f fd, Wr K "are_different" sDiff f fd) (w_name : ∃ f fd, Wr K "is_name" sName f fd) (w_value : ∃ f fd, Wr K "is_value" sValue f fd) (w_values : ∃ f fd, Wr K "is_values" sValues f fd) (w_asc : ∃ f fd, Wr K "are_ascending" sAsc f fd) (w_nn : ∃ f fd, Wr K "is_name_or_none" sNN f fd) (w_column : ∃ f fd, Wr K "is_column" sColumn f fd) (w_call : ∃ f fd, Wr K "is_call" sCall f fd) (w_told : ∃ f fd, Wr K "is_told" sTold f fd) (w_source : ∃ f fd, Wr K "is_source" sSource f fd) (w_cond : ∃ f fd, Wr K "is_condition" sCond f fd) (w_stP : ∃ f fd, Wr K "is_statement" sStatementP f fd) (w_hasV : ∃ f fd, Wr K "has_value" sHasV f fd) (w_view : ∃ f fd, Wr K "is_view_statement" sView f fd) (w_path : ∃ f fd, Wr K "is_path" sPath f fd) (w_pen : ∃ f fd, Wr K "_law_pen" sPen f fd) (w_next : ∃ f fd, Wr K "_law_next" sNext f fd) (w_draw : ∃ f fd, Wr K "_law_draw" sDraw f fd) (w_some : ∃ f fd, Wr K "_law_some" sSome f fd) (w_worths : ∃ f fd, Wr K "_law_worths" sWorths f fd) (w_cell : ∃ f fd, Wr K "_law_cell" sCell f fd) (w_lterm : ∃ f fd, Wr K "_law_term" sLTerm f fd) (w_statement : ∃ f fd, Wr K "_law_statement" sStatement f fd) (w_lpath : ∃ f fd, Wr K "_law_path" sLPath f fd) (w_nym : ∃ f fd, Wr K "_law_is_nym" sNym f fd) (w_worthsL : ∃ f fd, Wr K "_law_are_worths" sWorthsL f fd) (w_nyms : ∃ f fd, Wr K "_law_are_nyms" sNyms f fd) (w_way : ∃ f fd, Wr K "_law_is_way" sWay f fd) (w_cellL : ∃ f fd, Wr K "_law_is_cell" sCellL f fd) (w_called : ∃ f fd, Wr K "_law_is_called" sCalled f fd) (w_toldL : ∃ f fd, Wr K "_law_is_told" sToldL f fd) (w_ask : ∃ f fd, Wr K "_law_is_ask" sAsk f fd) (w_origin : ∃ f fd, Wr K "_law_is_origin" sOrigin f fd) (w_said : ∃ f fd, Wr K "_law_is_said" sSaid f fd) (w_hasW : ∃ f fd, Wr K "_law_has_worth" sHasW f fd) (w_inner : ∃ f fd, Wr K "_law_is_inner" sInner f fd) (w_bent : ∃ f fd, Wr K "_law_bent" sBent f fd) (w_edges : ∃ f fd, Wr K "_law_edges" sEdges f fd) (w_law : ∃ f fd, Wr K "law" sLaw f fd)
    (z_len : PySem.W.nsIn K mainGlobals "len" = some none) (z_isinstance : PySem.W.nsIn K mainGlobals "isinstance" = some none) (z_str : PySem.W.nsIn K mainGlobals "str" = some none) (z_tuple : PySem.W.nsIn K mainGlobals "tuple" = some none) (z_all : PySem.W.nsIn K mainGlobals "all" = some none) (z_set : PySem.W.nsIn K mainGlobals "set" = some none) (z_sorted : PySem.W.nsIn K mainGlobals "sorted" = some none) (z_bool : PySem.W.nsIn K mainGlobals "bool" = some none) (z_any : PySem.W.nsIn K mainGlobals "any" = some none) (z_repr : PySem.W.nsIn K mainGlobals "repr" = some none) (z_list : PySem.W.nsIn K mainGlobals "list" = some none) (z_range : PySem.W.nsIn K mainGlobals "range" = some none) (z_int : PySem.W.nsIn K mainGlobals "int" = some none) (z_min : PySem.W.nsIn K mainGlobals "min" = some none)
    (k_most : ∃ u, PySem.W.nsIn K mainGlobals "MOST_LETTERS" = some (some u) ∧ RelV (.int 8) u) (k_mostV : ∃ u, PySem.W.nsIn K mainGlobals "MOST_VALUES" = some (some u) ∧ RelV (.int 8) u) (k_mSources : ∃ u, PySem.W.nsIn K mainGlobals "MOST_SOURCES" = some (some u) ∧ RelV (.int 4) u) (k_mTold : ∃ u, PySem.W.nsIn K mainGlobals "MOST_TOLD" = some (some u) ∧ RelV (.int 8) u) (k_mCond : ∃ u, PySem.W.nsIn K mainGlobals "MOST_CONDITIONS" = some (some u) ∧ RelV (.int 8) u) (k_mTerms : ∃ u, PySem.W.nsIn K mainGlobals "MOST_TERMS" = some (some u) ∧ RelV (.int 2) u) (k_mSchemas : ∃ u, PySem.W.nsIn K mainGlobals "MOST_SCHEMAS" = some (some u) ∧ RelV (.int 6) u) (k_deepest : ∃ u, PySem.W.nsIn K mainGlobals "DEEPEST_CALL" = some (some u) ∧ RelV (.int 3) u) (k_resv : ∃ a, PySem.W.nsIn K mainGlobals "RESERVED" = some (some (.ref a)) ∧ KSt w K a resv) :
    ∃ fd : FuncData, (∀ (s : Shared) (v : Value), BindsTo s fd ⟨[v], []⟩ [("_law_script", v)]) ∧ ∀ base : Heap, K.In base → base.Ns mainGlobals mg → FnG l.prog w K mg base 34 fa fd ["_law_script"] (spLaw K) := by
  obtain ⟨f_tupOf, d_tupOf, W_tupOf⟩ := w_tupOf
  obtain ⟨f_diff, d_diff, W_diff⟩ := w_diff
  obtain ⟨f_name, d_name, W_name⟩ := w_name
  obtain ⟨f_value, d_value, W_value⟩ := w_value
  obtain ⟨f_values, d_values, W_values⟩ := w_values
  obtain ⟨f_asc, d_asc, W_asc⟩ := w_asc
  obtain ⟨f_nn, d_nn, W_nn⟩ := w_nn
  obtain ⟨f_column, d_column, W_column⟩ := w_column
  obtain ⟨f_call, d_call, W_call⟩ := w_call
  obtain ⟨f_told, d_told, W_told⟩ := w_told
  obtain ⟨f_source, d_source, W_source⟩ := w_source
  obtain ⟨f_cond, d_cond, W_cond⟩ := w_cond
  obtain ⟨f_stP, d_stP, W_stP⟩ := w_stP
  obtain ⟨f_hasV, d_hasV, W_hasV⟩ := w_hasV
  obtain ⟨f_view, d_view, W_view⟩ := w_view
  obtain ⟨f_path, d_path, W_path⟩ := w_path
  obtain ⟨f_pen, d_pen, W_pen⟩ := w_pen
  obtain ⟨f_next, d_next, W_next⟩ := w_next
  obtain ⟨f_draw, d_draw, W_draw⟩ := w_draw
  obtain ⟨f_some, d_some, W_some⟩ := w_some
  obtain ⟨f_worths, d_worths, W_worths⟩ := w_worths
  obtain ⟨f_cell, d_cell, W_cell⟩ := w_cell
  obtain ⟨f_lterm, d_lterm, W_lterm⟩ := w_lterm
  obtain ⟨f_statement, d_statement, W_statement⟩ := w_statement
  obtain ⟨f_lpath, d_lpath, W_lpath⟩ := w_lpath
  obtain ⟨f_nym, d_nym, W_nym⟩ := w_nym
  obtain ⟨f_worthsL, d_worthsL, W_worthsL⟩ := w_worthsL
  obtain ⟨f_nyms, d_nyms, W_nyms⟩ := w_nyms
  obtain ⟨f_way, d_way, W_way⟩ := w_way
  obtain ⟨f_cellL, d_cellL, W_cellL⟩ := w_cellL
  obtain ⟨f_called, d_called, W_called⟩ := w_called
  obtain ⟨f_toldL, d_toldL, W_toldL⟩ := w_toldL
  obtain ⟨f_ask, d_ask, W_ask⟩ := w_ask
  obtain ⟨f_origin, d_origin, W_origin⟩ := w_origin
  obtain ⟨f_said, d_said, W_said⟩ := w_said
  obtain ⟨f_hasW, d_hasW, W_hasW⟩ := w_hasW
  obtain ⟨f_inner, d_inner, W_inner⟩ := w_inner
  obtain ⟨f_bent, d_bent, W_bent⟩ := w_bent
  obtain ⟨f_edges, d_edges, W_edges⟩ := w_edges
  obtain ⟨f_law, d_law, W_law⟩ := w_law
  have e := hfa.symm.trans (W_law.mg X G)
  cases e
  obtain ⟨u_most, c_most, t_most, e_most⟩ := k_most
  rw [e_most] at c_most
  obtain ⟨u_mostV, c_mostV, t_mostV, e_mostV⟩ := k_mostV
  rw [e_mostV] at c_mostV
  obtain ⟨u_mSources, c_mSources, t_mSources, e_mSources⟩ := k_mSources
  rw [e_mSources] at c_mSources
  obtain ⟨u_mTold, c_mTold, t_mTold, e_mTold⟩ := k_mTold
  rw [e_mTold] at c_mTold
  obtain ⟨u_mCond, c_mCond, t_mCond, e_mCond⟩ := k_mCond
  rw [e_mCond] at c_mCond
  obtain ⟨u_mTerms, c_mTerms, t_mTerms, e_mTerms⟩ := k_mTerms
  rw [e_mTerms] at c_mTerms
  obtain ⟨u_mSchemas, c_mSchemas, t_mSchemas, e_mSchemas⟩ := k_mSchemas
  rw [e_mSchemas] at c_mSchemas
  obtain ⟨u_deepest, c_deepest, t_deepest, e_deepest⟩ := k_deepest
  rw [e_deepest] at c_deepest
  obtain ⟨a4, c4, hR⟩ := k_resv
  have Gt : Bt w K mg := { len := PySem.W.mg_none_of X G z_len, isi := PySem.W.mg_none_of X G z_isinstance, str := PySem.W.mg_none_of X G z_str, tuple := PySem.W.mg_none_of X G z_tuple, all := PySem.W.mg_none_of X G z_all, set := PySem.W.mg_none_of X G z_set, sorted := PySem.W.mg_none_of X G z_sorted, bool := PySem.W.mg_none_of X G z_bool, any := PySem.W.mg_none_of X G z_any, repr := PySem.W.mg_none_of X G z_repr, list := PySem.W.mg_none_of X G z_list, range := PySem.W.mg_none_of X G z_range, most := ⟨t_most, PySem.W.mg_of X G c_most⟩, mostV := ⟨t_mostV, PySem.W.mg_of X G c_mostV⟩, mSources := ⟨t_mSources, PySem.W.mg_of X G c_mSources⟩, mTold := ⟨t_mTold, PySem.W.mg_of X G c_mTold⟩, mCond := ⟨t_mCond, PySem.W.mg_of X G c_mCond⟩, mTerms := ⟨t_mTerms, PySem.W.mg_of X G c_mTerms⟩, mSchemas := ⟨t_mSchemas, PySem.W.mg_of X G c_mSchemas⟩, deepest := ⟨t_deepest, PySem.W.mg_of X G c_deepest⟩, resv := ⟨a4, PySem.W.mg_of X G c4, hR⟩ }
  have Gn : Bn mg := { list := PySem.W.mg_none_of X G z_list, len := PySem.W.mg_none_of X G z_len, int := PySem.W.mg_none_of X G z_int, isi := PySem.W.mg_none_of X G z_isinstance, str := PySem.W.mg_none_of X G z_str, min := PySem.W.mg_none_of X G z_min, range := PySem.W.mg_none_of X G z_range, sorted := PySem.W.mg_none_of X G z_sorted, tuple := PySem.W.mg_none_of X G z_tuple, repr := PySem.W.mg_none_of X G z_repr }
  have Gs : Bs w K mg := Gt.toBs
  have Gf : Bf w K mg := Gs.toBf
  have Gl : Bl mg := Gn.toBm.toBl
  have b_tupOf := W_tupOf.fn.binds (ps := ["thing", "least", "most", "is_part"]) fun _ _ _ _ _ _ us hl => match us, hl with | [_, _, _, _], _ => rfl
  have b_diff := W_diff.fn.binds (ps := ["things"]) fun _ _ _ _ _ _ us hl => match us, hl with | [_], _ => rfl
  have b_name := W_name.fn.binds (ps := ["thing"]) fun _ _ _ _ _ _ us hl => match us, hl with | [_], _ => rfl
  have b_value := W_value.fn.binds (ps := ["thing"]) fun _ _ _ _ _ _ us hl => match us, hl with | [_], _ => rfl
  have b_values := W_values.fn.binds (ps := ["thing"]) fun _ _ _ _ _ _ us hl => match us, hl with | [_], _ => rfl
  have b_asc := W_asc.fn.binds (ps := ["values"]) fun _ _ _ _ _ _ us hl => match us, hl with | [_], _ => rfl
  have b_nn := W_nn.fn.binds (ps := ["thing"]) fun _ _ _ _ _ _ us hl => match us, hl with | [_], _ => rfl
  have b_column := W_column.fn.binds (ps := ["thing"]) fun _ _ _ _ _ _ us hl => match us, hl with | [_], _ => rfl
  have b_call := W_call.fn.binds (ps := ["thing", "deepest"]) fun _ _ _ _ _ _ us hl => match us, hl with | [_, _], _ => rfl
  have b_told := W_told.fn.binds (ps := ["thing"]) fun _ _ _ _ _ _ us hl => match us, hl with | [_], _ => rfl
  have b_source := W_source.fn.binds (ps := ["thing"]) fun _ _ _ _ _ _ us hl => match us, hl with | [_], _ => rfl
  have b_cond := W_cond.fn.binds (ps := ["thing"]) fun _ _ _ _ _ _ us hl => match us, hl with | [_], _ => rfl
  have b_stP := W_stP.fn.binds (ps := ["thing"]) fun _ _ _ _ _ _ us hl => match us, hl with | [_], _ => rfl
  have b_hasV := W_hasV.fn.binds (ps := ["term"]) fun _ _ _ _ _ _ us hl => match us, hl with | [_], _ => rfl
  have b_view := W_view.fn.binds (ps := ["thing"]) fun _ _ _ _ _ _ us hl => match us, hl with | [_], _ => rfl
  have b_path := W_path.fn.binds (ps := ["thing"]) fun _ _ _ _ _ _ us hl => match us, hl with | [_], _ => rfl
  have b_pen := W_pen.fn.binds (ps := ["_law_script"]) fun _ _ _ _ _ _ us hl => match us, hl with | [_], _ => rfl
  have b_next := W_next.fn.binds (ps := ["_law_pen_here"]) fun _ _ _ _ _ _ us hl => match us, hl with | [_], _ => rfl
  have b_draw := W_draw.fn.binds (ps := ["_law_pen_here", "_law_under"]) fun _ _ _ _ _ _ us hl => match us, hl with | [_, _], _ => rfl
  have b_some := W_some.fn.binds (ps := ["_law_pen_here", "_law_pool", "_law_most"]) fun _ _ _ _ _ _ us hl => match us, hl with | [_, _, _], _ => rfl
  have b_worths := W_worths.fn.binds (ps := ["_law_pen_here"]) fun _ _ _ _ _ _ us hl => match us, hl with | [_], _ => rfl
  have b_cell := W_cell.fn.binds (ps := ["_law_pen_here", "_law_labels"]) fun _ _ _ _ _ _ us hl => match us, hl with | [_, _], _ => rfl
  have b_lterm := W_lterm.fn.binds (ps := ["_law_pen_here", "_law_labels", "_law_depth", "_law_is_inner_here"]) fun _ _ _ _ _ _ us hl => match us, hl with | [_, _, _, _], _ => rfl
  have b_statement := W_statement.fn.binds (ps := ["_law_pen_here", "_law_places", "_law_most", "_law_is_inner_here"]) fun _ _ _ _ _ _ us hl => match us, hl with | [_, _, _, _], _ => rfl
  have b_lpath := W_lpath.fn.binds (ps := ["_law_pen_here"]) fun _ _ _ _ _ _ us hl => match us, hl with | [_], _ => rfl
  have b_nym := W_nym.fn.binds (ps := ["_law_thing_here"]) fun _ _ _ _ _ _ us hl => match us, hl with | [_], _ => rfl
  have b_worthsL := W_worthsL.fn.binds (ps := ["_law_thing_here"]) fun _ _ _ _ _ _ us hl => match us, hl with | [_], _ => rfl
  have b_nyms := W_nyms.fn.binds (ps := ["_law_thing_here", "_law_least_here", "_law_most_here"]) fun _ _ _ _ _ _ us hl => match us, hl with | [_, _, _], _ => rfl
  have b_way := W_way.fn.binds (ps := ["_law_thing_here"]) fun _ _ _ _ _ _ us hl => match us, hl with | [_], _ => rfl
  have b_cellL := W_cellL.fn.binds (ps := ["_law_thing_here"]) fun _ _ _ _ _ _ us hl => match us, hl with | [_], _ => rfl
  have b_called := W_called.fn.binds (ps := ["_law_thing_here", "_law_depth"]) fun _ _ _ _ _ _ us hl => match us, hl with | [_, _], _ => rfl
  have b_toldL := W_toldL.fn.binds (ps := ["_law_thing_here"]) fun _ _ _ _ _ _ us hl => match us, hl with | [_], _ => rfl
  have b_ask := W_ask.fn.binds (ps := ["_law_thing_here"]) fun _ _ _ _ _ _ us hl => match us, hl with | [_], _ => rfl
  have b_origin := W_origin.fn.binds (ps := ["_law_thing_here"]) fun _ _ _ _ _ _ us hl => match us, hl with | [_], _ => rfl
  have b_said := W_said.fn.binds (ps := ["_law_thing_here"]) fun _ _ _ _ _ _ us hl => match us, hl with | [_], _ => rfl
  have b_hasW := W_hasW.fn.binds (ps := ["_law_term_here"]) fun _ _ _ _ _ _ us hl => match us, hl with | [_], _ => rfl
  have b_inner := W_inner.fn.binds (ps := ["_law_thing_here"]) fun _ _ _ _ _ _ us hl => match us, hl with | [_], _ => rfl
  have b_bent := W_bent.fn.binds (ps := ["_law_pen_here", "_law_thing_here", "_law_odd"]) fun _ _ _ _ _ _ us hl => match us, hl with | [_, _, _], _ => rfl
  have b_edges := W_edges.fn.binds (ps := []) fun _ _ _ _ _ _ us hl => match us, hl with | [], _ => rfl
  have b_law := W_law.fn.binds (ps := ["_law_script"]) fun _ _ _ _ _ _ us hl => match us, hl with | [_], _ => rfl
  obtain ⟨oc, od, kV, doc, pm, an, cdv, ct, osl, ed, _, _⟩ := W_law.fn.ex
  refine ⟨d_law, fun s v => by rw [ed]; exact .of_eq rfl, fun base _ _ => ?_⟩
  have c_next : CalN l.prog w K mg base 1 "_law_next" spNext := ⟨f_next, d_next, _, ok_next W_next.fn Gl, W_next.mg X G, W_next.fn.kp, b_next⟩
  have c_draw : CalN l.prog w K mg base 2 "_law_draw" spDraw := ⟨f_draw, d_draw, _, ok_draw W_draw.fn Gl c_next, W_draw.mg X G, W_draw.fn.kp, b_draw⟩
  have c_pen : CalN l.prog w K mg base 1 "_law_pen" (spPen K) := ⟨f_pen, d_pen, _, ok_pen W_pen.fn Gl, W_pen.mg X G, W_pen.fn.kp, b_pen⟩
  have c_tupOf : CalN l.prog w K mg base 2 "is_tuple_of" (spTO l.prog w K mg base 1) := ⟨f_tupOf, d_tupOf, _, ok_tupOf W_tupOf.fn Gf, W_tupOf.mg X G, W_tupOf.fn.kp, b_tupOf⟩
  have c_tupOf9 : CalN l.prog w K mg base 10 "is_tuple_of" (spTO l.prog w K mg base 9) := ⟨f_tupOf, d_tupOf, _, ok_tupOf W_tupOf.fn Gf, W_tupOf.mg X G, W_tupOf.fn.kp, b_tupOf⟩
  have c_diff : CalN l.prog w K mg base 1 "are_different" (spDiff K) := ⟨f_diff, d_diff, _, ok_diff W_diff.fn Gf, W_diff.mg X G, W_diff.fn.kp, b_diff⟩
  have c_value : CalN l.prog w K mg base 1 "is_value" (spB valD) := ⟨f_value, d_value, _, ok_value W_value.fn Gf, W_value.mg X G, W_value.fn.kp, b_value⟩
  have c_asc : CalN l.prog w K mg base 1 "are_ascending" (spD FAsc) := ⟨f_asc, d_asc, _, ok_asc W_asc.fn, W_asc.mg X G, W_asc.fn.kp, b_asc⟩
  have c_name : CalN l.prog w K mg base 2 "is_name" (spB namD) := ⟨f_name, d_name, _, ok_name W_name.fn Gf, W_name.mg X G, W_name.fn.kp, b_name⟩
  have c_name9 : CalN l.prog w K mg base 9 "is_name" (spB namD) := ⟨f_name, d_name, _, My.FnOk.up (ok_name W_name.fn Gf) (by decide), W_name.mg X G, W_name.fn.kp, b_name⟩
  have c_values : CalN l.prog w K mg base 3 "is_values" (spB valsD) := ⟨f_values, d_values, _, ok_values W_values.fn Gf c_value c_tupOf c_asc, W_values.mg X G, W_values.fn.kp, b_values⟩
  have c_nn : CalN l.prog w K mg base 3 "is_name_or_none" (spB nnD) := ⟨f_nn, d_nn, _, ok_nn W_nn.fn Gs c_name, W_nn.mg X G, W_nn.fn.kp, b_nn⟩
  have c_column : CalN l.prog w K mg base 4 "is_column" (spB colD) := ⟨f_column, d_column, _, ok_column W_column.fn Gs c_name, W_column.mg X G, W_column.fn.kp, b_column⟩
  have c_call : CalN l.prog w K mg base 8 "is_call" (spD (FC 3)) := ⟨f_call, d_call, _, ok_call W_call.fn b_call (W_call.mg X G) Gs c_value c_name c_nn c_column 3, W_call.mg X G, W_call.fn.kp, b_call⟩
  have c_told : CalN l.prog w K mg base 9 "is_told" (spB toldD) := ⟨f_told, d_told, _, ok_told W_told.fn Gs c_value c_name c_column c_call, W_told.mg X G, W_told.fn.kp, b_told⟩
  have c_source9 : CalN l.prog w K mg base 9 "is_source" (spB srcD) := ⟨f_source, d_source, _, My.FnOk.up (ok_source W_source.fn Gs c_name) (by decide), W_source.mg X G, W_source.fn.kp, b_source⟩
  have c_cond9 : CalN l.prog w K mg base 9 "is_condition" (spB condD) := ⟨f_cond, d_cond, _, My.FnOk.up (ok_cond W_cond.fn Gs c_column c_values) (by decide), W_cond.mg X G, W_cond.fn.kp, b_cond⟩
  have c_stP : CalN l.prog w K mg base 11 "is_statement" (spB stD) := ⟨f_stP, d_stP, _, ok_statementP W_stP.fn Gs c_tupOf9 c_diff c_told c_source9 c_cond9, W_stP.mg X G, W_stP.fn.kp, b_stP⟩
  have c_hasV : CalN l.prog w K mg base 4 "has_value" (spD (FV 3)) := ⟨f_hasV, d_hasV, _, ok_hasV W_hasV.fn b_hasV (W_hasV.mg X G) Gs 3, W_hasV.mg X G, W_hasV.fn.kp, b_hasV⟩
  have c_view : CalN l.prog w K mg base 12 "is_view_statement" (spB viewD) := ⟨f_view, d_view, _, ok_view W_view.fn Gs c_stP c_hasV c_diff, W_view.mg X G, W_view.fn.kp, b_view⟩
  have c_path : CalN l.prog w K mg base 11 "is_path" (spB pathD) := ⟨f_path, d_path, _, ok_path W_path.fn Gs c_tupOf9 c_diff c_name9, W_path.mg X G, W_path.fn.kp, b_path⟩
  have c_some : CalN l.prog w K mg base 3 "_law_some" (spSome K) := ⟨f_some, d_some, _, ok_some W_some.fn Gn c_draw, W_some.mg X G, W_some.fn.kp, b_some⟩
  have c_worths : CalN l.prog w K mg base 4 "_law_worths" spWorths := ⟨f_worths, d_worths, _, ok_worths W_worths.fn Gn c_some, W_worths.mg X G, W_worths.fn.kp, b_worths⟩
  have c_cell : CalN l.prog w K mg base 3 "_law_cell" (spCell K) := ⟨f_cell, d_cell, _, ok_cell W_cell.fn Gn c_draw, W_cell.mg X G, W_cell.fn.kp, b_cell⟩
  have c_lterm : CalN l.prog w K mg base 7 "_law_term" (spLTermA K) := ⟨f_lterm, d_lterm, _, ok_ltermA (ok_lterm W_lterm.fn b_lterm (W_lterm.mg X G) Gn c_draw c_cell), W_lterm.mg X G, W_lterm.fn.kp, b_lterm⟩
  have c_statement : CalN l.prog w K mg base 10 "_law_statement" spStatement := ⟨f_statement, d_statement, _, ok_statement W_statement.fn Gn c_draw c_lterm c_cell c_worths, W_statement.mg X G, W_statement.fn.kp, b_statement⟩
  have c_lpath : CalN l.prog w K mg base 3 "_law_path" spLPath := ⟨f_lpath, d_lpath, _, ok_lpath W_lpath.fn c_draw, W_lpath.mg X G, W_lpath.fn.kp, b_lpath⟩
  have c_nym : CalN l.prog w K mg base 1 "_law_is_nym" (spB namD) := ⟨f_nym, d_nym, _, ok_nym W_nym.fn Gt, W_nym.mg X G, W_nym.fn.kp, b_nym⟩
  have c_worthsL : CalN l.prog w K mg base 1 "_law_are_worths" (spB valsD) := ⟨f_worthsL, d_worthsL, _, ok_worthsL W_worthsL.fn Gt, W_worthsL.mg X G, W_worthsL.fn.kp, b_worthsL⟩
  have c_nyms : CalN l.prog w K mg base 2 "_law_are_nyms" (spD FNy) := ⟨f_nyms, d_nyms, _, ok_nyms W_nyms.fn Gt c_nym, W_nyms.mg X G, W_nyms.fn.kp, b_nyms⟩
  have c_way : CalN l.prog w K mg base 3 "_law_is_way" (spB pathD) := ⟨f_way, d_way, _, ok_way W_way.fn Gt c_nyms, W_way.mg X G, W_way.fn.kp, b_way⟩
  have c_cellL : CalN l.prog w K mg base 2 "_law_is_cell" (spB colD) := ⟨f_cellL, d_cellL, _, ok_cellL W_cellL.fn Gt c_nym, W_cellL.mg X G, W_cellL.fn.kp, b_cellL⟩
  have c_called : CalG l.prog w K mg base 6 "_law_is_called" (spD (FC 3)) := ⟨f_called, d_called, _, ok_called W_called.fn b_called (W_called.mg X G) Gt c_nym c_cellL c_worthsL 3, W_called.mg X G, W_called.fn.kp, b_called⟩
  have c_toldL : CalG l.prog w K mg base 7 "_law_is_told" (spB toldD) := ⟨f_toldL, d_toldL, _, ok_toldL W_toldL.fn Gt c_nym c_cellL c_worthsL c_called, W_toldL.mg X G, W_toldL.fn.kp, b_toldL⟩
  have c_ask : CalG l.prog w K mg base 3 "_law_is_ask" (spB condD) := ⟨f_ask, d_ask, _, ok_ask W_ask.fn Gt c_cellL c_worthsL, W_ask.mg X G, W_ask.fn.kp, b_ask⟩
  have c_origin : CalN l.prog w K mg base 3 "_law_is_origin" (spB srcD) := ⟨f_origin, d_origin, _, ok_origin W_origin.fn Gt c_nym c_cellL, W_origin.mg X G, W_origin.fn.kp, b_origin⟩
  have c_said : CalG l.prog w K mg base 8 "_law_is_said" (spB stD) := ⟨f_said, d_said, _, ok_said W_said.fn Gt c_toldL c_ask c_origin, W_said.mg X G, W_said.fn.kp, b_said⟩
  have c_hasW : CalN l.prog w K mg base 4 "_law_has_worth" (spD (FV 3)) := ⟨f_hasW, d_hasW, _, ok_hasW W_hasW.fn b_hasW (W_hasW.mg X G) Gt 3, W_hasW.mg X G, W_hasW.fn.kp, b_hasW⟩
  have c_inner : CalG l.prog w K mg base 9 "_law_is_inner" (spB viewD) := ⟨f_inner, d_inner, _, ok_inner W_inner.fn Gt c_said c_hasW, W_inner.mg X G, W_inner.fn.kp, b_inner⟩
  have c_bent : CalN l.prog w K mg base 33 "_law_bent" (spBent 30) := ⟨f_bent, d_bent, _, ok_bent W_bent.fn b_bent (W_bent.mg X G) Gt c_draw, W_bent.mg X G, W_bent.fn.kp, b_bent⟩
  have c_edges : CalN l.prog w K mg base 1 "_law_edges" spEdges := ⟨f_edges, d_edges, _, ok_edges W_edges.fn Gt, W_edges.mg X G, W_edges.fn.kp, b_edges⟩
  exact ok_law W_law.fn Gt c_pen c_draw c_statement c_lpath c_bent c_edges c_stP c_view c_path c_said c_inner c_way
end K04

open PySem PySem.W PyProof.Rows
set_option maxRecDepth 100000 in
set_option maxHeartbeats 0 in
theorem PySem.Challenge.cw_boundonce_k04_statements_by_form_holds : PySem.Challenge.rw_boundonce_k04_statements_by_form.Holds := by
  w_on; o_law; k_head; (case hw => w_witness2)
  k_fill
  refine My.walk_G (l := PySem.Challenge.rw_boundonce_k04_statements_by_form) (n := 63) (k := 34) (x := "_law_script") (sp := fun w => K04.spLaw _) rfl (by decide) rfl ⟨rfl, by decide, by decide⟩ (fun w h Y => PySem.W.kIn_of Y) ?F (fun w H a ns hl _ hS => ⟨a, ns, rfl, hS, hl, fun _ => rfl⟩)
  case F =>
    intro w mg fa h KX G hmg
    refine' K04.all_mk KX G hmg ?w_tupOf ?w_diff ?w_name ?w_value ?w_values ?w_asc ?w_nn ?w_column ?w_call ?w_told ?w_source ?w_cond ?w_stP ?w_hasV ?w_view ?w_path ?w_pen ?w_next ?w_draw ?w_some ?w_worths ?w_cell ?w_lterm ?w_statement ?w_lpath ?w_nym ?w_worthsL ?w_nyms ?w_way ?w_cellL ?w_called ?w_toldL ?w_ask ?w_origin ?w_said ?w_hasW ?w_inner ?w_bent ?w_edges ?w_law ?z_len ?z_isinstance ?z_str ?z_tuple ?z_all ?z_set ?z_sorted ?z_bool ?z_any ?z_repr ?z_list ?z_range ?z_int ?z_min ?k_most ?k_mostV ?k_mSources ?k_mTold ?k_mCond ?k_mTerms ?k_mSchemas ?k_deepest ?k_resv
    (case w_tupOf => refine' ⟨_, K04.wr_mk ?a ?l ?c ?k⟩; (case a => k_is); (case l => k_is); (case c => k_is); (case k => k_is))
    (case w_diff => refine' ⟨_, K04.wr_mk ?a ?l ?c ?k⟩; (case a => k_is); (case l => k_is); (case c => k_is); (case k => k_is))
    (case w_name => refine' ⟨_, K04.wr_mk ?a ?l ?c ?k⟩; (case a => k_is); (case l => k_is); (case c => k_is); (case k => k_is))
    (case w_value => refine' ⟨_, K04.wr_mk ?a ?l ?c ?k⟩; (case a => k_is); (case l => k_is); (case c => k_is); (case k => k_is))
    (case w_values => refine' ⟨_, K04.wr_mk ?a ?l ?c ?k⟩; (case a => k_is); (case l => k_is); (case c => k_is); (case k => k_is))
    (case w_asc => refine' ⟨_, K04.wr_mk ?a ?l ?c ?k⟩; (case a => k_is); (case l => k_is); (case c => k_is); (case k => k_is))
    (case w_nn => refine' ⟨_, K04.wr_mk ?a ?l ?c ?k⟩; (case a => k_is); (case l => k_is); (case c => k_is); (case k => k_is))
    (case w_column => refine' ⟨_, K04.wr_mk ?a ?l ?c ?k⟩; (case a => k_is); (case l => k_is); (case c => k_is); (case k => k_is))
    (case w_call => refine' ⟨_, K04.wr_mk ?a ?l ?c ?k⟩; (case a => k_is); (case l => k_is); (case c => k_is); (case k => k_is))
    (case w_told => refine' ⟨_, K04.wr_mk ?a ?l ?c ?k⟩; (case a => k_is); (case l => k_is); (case c => k_is); (case k => k_is))
    (case w_source => refine' ⟨_, K04.wr_mk ?a ?l ?c ?k⟩; (case a => k_is); (case l => k_is); (case c => k_is); (case k => k_is))
    (case w_cond => refine' ⟨_, K04.wr_mk ?a ?l ?c ?k⟩; (case a => k_is); (case l => k_is); (case c => k_is); (case k => k_is))
    (case w_stP => refine' ⟨_, K04.wr_mk ?a ?l ?c ?k⟩; (case a => k_is); (case l => k_is); (case c => k_is); (case k => k_is))
    (case w_hasV => refine' ⟨_, K04.wr_mk ?a ?l ?c ?k⟩; (case a => k_is); (case l => k_is); (case c => k_is); (case k => k_is))
    (case w_view => refine' ⟨_, K04.wr_mk ?a ?l ?c ?k⟩; (case a => k_is); (case l => k_is); (case c => k_is); (case k => k_is))
    (case w_path => refine' ⟨_, K04.wr_mk ?a ?l ?c ?k⟩; (case a => k_is); (case l => k_is); (case c => k_is); (case k => k_is))
    (case w_pen => refine' ⟨_, K04.wr_mk ?a ?l ?c ?k⟩; (case a => k_is); (case l => k_is); (case c => k_is); (case k => k_is))
    (case w_next => refine' ⟨_, K04.wr_mk ?a ?l ?c ?k⟩; (case a => k_is); (case l => k_is); (case c => k_is); (case k => k_is))
    (case w_draw => refine' ⟨_, K04.wr_mk ?a ?l ?c ?k⟩; (case a => k_is); (case l => k_is); (case c => k_is); (case k => k_is))
    (case w_some => refine' ⟨_, K04.wr_mk ?a ?l ?c ?k⟩; (case a => k_is); (case l => k_is); (case c => k_is); (case k => k_is))
    (case w_worths => refine' ⟨_, K04.wr_mk ?a ?l ?c ?k⟩; (case a => k_is); (case l => k_is); (case c => k_is); (case k => k_is))
    (case w_cell => refine' ⟨_, K04.wr_mk ?a ?l ?c ?k⟩; (case a => k_is); (case l => k_is); (case c => k_is); (case k => k_is))
    (case w_lterm => refine' ⟨_, K04.wr_mk ?a ?l ?c ?k⟩; (case a => k_is); (case l => k_is); (case c => k_is); (case k => k_is))
    (case w_statement => refine' ⟨_, K04.wr_mk ?a ?l ?c ?k⟩; (case a => k_is); (case l => k_is); (case c => k_is); (case k => k_is))
    (case w_lpath => refine' ⟨_, K04.wr_mk ?a ?l ?c ?k⟩; (case a => k_is); (case l => k_is); (case c => k_is); (case k => k_is))
    (case w_nym => refine' ⟨_, K04.wr_mk ?a ?l ?c ?k⟩; (case a => k_is); (case l => k_is); (case c => k_is); (case k => k_is))
    (case w_worthsL => refine' ⟨_, K04.wr_mk ?a ?l ?c ?k⟩; (case a => k_is); (case l => k_is); (case c => k_is); (case k => k_is))
    (case w_nyms => refine' ⟨_, K04.wr_mk ?a ?l ?c ?k⟩; (case a => k_is); (case l => k_is); (case c => k_is); (case k => k_is))
    (case w_way => refine' ⟨_, K04.wr_mk ?a ?l ?c ?k⟩; (case a => k_is); (case l => k_is); (case c => k_is); (case k => k_is))
    (case w_cellL => refine' ⟨_, K04.wr_mk ?a ?l ?c ?k⟩; (case a => k_is); (case l => k_is); (case c => k_is); (case k => k_is))
    (case w_called => refine' ⟨_, K04.wr_mk ?a ?l ?c ?k⟩; (case a => k_is); (case l => k_is); (case c => k_is); (case k => k_is))
    (case w_toldL => refine' ⟨_, K04.wr_mk ?a ?l ?c ?k⟩; (case a => k_is); (case l => k_is); (case c => k_is); (case k => k_is))
    (case w_ask => refine' ⟨_, K04.wr_mk ?a ?l ?c ?k⟩; (case a => k_is); (case l => k_is); (case c => k_is); (case k => k_is))
    (case w_origin => refine' ⟨_, K04.wr_mk ?a ?l ?c ?k⟩; (case a => k_is); (case l => k_is); (case c => k_is); (case k => k_is))
    (case w_said => refine' ⟨_, K04.wr_mk ?a ?l ?c ?k⟩; (case a => k_is); (case l => k_is); (case c => k_is); (case k => k_is))
    (case w_hasW => refine' ⟨_, K04.wr_mk ?a ?l ?c ?k⟩; (case a => k_is); (case l => k_is); (case c => k_is); (case k => k_is))
    (case w_inner => refine' ⟨_, K04.wr_mk ?a ?l ?c ?k⟩; (case a => k_is); (case l => k_is); (case c => k_is); (case k => k_is))
    (case w_bent => refine' ⟨_, K04.wr_mk ?a ?l ?c ?k⟩; (case a => k_is); (case l => k_is); (case c => k_is); (case k => k_is))
    (case w_edges => refine' ⟨_, K04.wr_mk ?a ?l ?c ?k⟩; (case a => k_is); (case l => k_is); (case c => k_is); (case k => k_is))
    (case w_law => refine' ⟨_, K04.wr_mk ?a ?l ?c ?k⟩; (case a => k_is); (case l => k_is); (case c => k_is); (case k => k_is))
    (case z_len => k_is)
    (case z_isinstance => k_is)
    (case z_str => k_is)
    (case z_tuple => k_is)
    (case z_all => k_is)
    (case z_set => k_is)
    (case z_sorted => k_is)
    (case z_bool => k_is)
    (case z_any => k_is)
    (case z_repr => k_is)
    (case z_list => k_is)
    (case z_range => k_is)
    (case z_int => k_is)
    (case z_min => k_is)
    (case k_most => refine' K04.cst_mk ?a ?b; (case a => k_is); (case b => exact ⟨_, rfl⟩))
    (case k_mostV => refine' K04.cst_mk ?a ?b; (case a => k_is); (case b => exact ⟨_, rfl⟩))
    (case k_mSources => refine' K04.cst_mk ?a ?b; (case a => k_is); (case b => exact ⟨_, rfl⟩))
    (case k_mTold => refine' K04.cst_mk ?a ?b; (case a => k_is); (case b => exact ⟨_, rfl⟩))
    (case k_mCond => refine' K04.cst_mk ?a ?b; (case a => k_is); (case b => exact ⟨_, rfl⟩))
    (case k_mTerms => refine' K04.cst_mk ?a ?b; (case a => k_is); (case b => exact ⟨_, rfl⟩))
    (case k_mSchemas => refine' K04.cst_mk ?a ?b; (case a => k_is); (case b => exact ⟨_, rfl⟩))
    (case k_deepest => refine' K04.cst_mk ?a ?b; (case a => k_is); (case b => exact ⟨_, rfl⟩))
    (case k_resv => refine' My.dic_mk ?a ?l ?t ?d ?o ?k ?w ?z; (case a => k_is); (case l => k_is); (case t => rfl); (case d => rfl); (case o => rfl); (case k => (repeat (refine ⟨⟨_, _, rfl, rfl⟩, ?_⟩)); exact trivial); (case w => decide); (case z => rfl))
