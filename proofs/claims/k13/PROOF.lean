import PyProof.Rows.All
import Wide.All
import OpenK.AllK
import Wide.FinOn
import HandS.Comp
import HandS.Ends
import HandS.Text
import HandS.Words
import PyProof.ReprRoads
import HandS.Iter
import HandS.IsInst
import HandS.CallLocal
import HandS.ForMost
import PyProof.StrBlock2
import PyProof.StrLawsRepr
import HandS.Dict
import PyProof.RowDictHeap
import PyProof.EqKinds
import PyProof.NeKinds
import PyProof.NeData
import HandS.Strs
import PyProof.Rows.SortStr
import HandS.SetFor
import HandS.TupAny
import PyProof.Rows.StrMeet
import HandS.Deep
import HandS.TupMul
import HandS.StrMore
import HandS.WordsExc
import HandS.ExcIs
import PyProof.ListStr
import PyProof.ListMulAny
import PyProof.Rows.ListMulArg
import PySem.Challenge.RW_boundonce_k13_texts_typed
set_option Elab.async false
set_option linter.all false
set_option maxRecDepth 100000
set_option maxHeartbeats 4000000

/-! My own layer over the hand layer: what is wanted of an expression, a test, a statement, forward. -/
namespace My
open PySem PySem.Spec PyProof.Rows L2
section
variable {X : Cx}
structure WE (X : Cx) (e : Expr) (σ : L2.St) (H : Hp) (Q : VK) : Prop where
  go : ∀ (pins : List (Addr × Obj)) (s : Shared), Inv X pins σ H s →
  wpAny (model X.prog X.w) X.A (eval e X.env) (EP X pins σ Q) X.xe s
structure WT (X : Cx) (e : Expr) (σ : L2.St) (H : Hp) (R : Bool → Hp → Prop) : Prop where
  go : ∀ (pins : List (Addr × Obj)) (s : Shared), Inv X pins σ H s →
  wpAny (model X.prog X.w) X.A (isTrue e X.env (eval e X.env)) (TP X pins σ R) X.xe s
structure WW (X : Cx) (e : Expr) (σ : L2.St) (H : Hp) (R : Bool → Hp → Prop) : Prop where
  go : ∀ (whole : Sem Value) (pins : List (Addr × Obj)) (s : Shared), Inv X pins σ H s →
  wpAny (model X.prog X.w) X.A (isTrue e X.env whole) (TP X pins σ R) X.xe s
structure WA (X : Cx) (es : List Expr) (σ : L2.St) (H : Hp) (U : List V → Hp → Prop) : Prop where
  go : ∀ (pos : Pos) (pins : List (Addr × Obj)) (s : Shared), Inv X pins σ H s →
  wpAny (model X.prog X.w) X.A (spliced (backTo pos (starEach es X.env))) (AP X pins σ U) X.xe s
structure WS (X : Cx) (st : Stmt) (D : Ends) (σ : L2.St) (H : Hp) : Prop where
  go : ∀ (pins : List (Addr × Obj)) (s : Shared), Inv X pins σ H s →
  wpAny (model X.prog X.w) X.A (exec st X.env) (SP X pins D) X.xe s
structure WL (X : Cx) (st : List Stmt) (D : Ends) (σ : L2.St) (H : Hp) : Prop where
  go : ∀ (pins : List (Addr × Obj)) (s : Shared), Inv X pins σ H s →
  wpAny (model X.prog X.w) X.A (execs st X.env) (SP X pins D) X.xe s
theorem pE {e : Expr} : PE X e (WE X e) := ⟨fun pins s _ _ _ I h => h.go pins s I⟩
theorem pT {e : Expr} : PT X e (WT X e) := ⟨fun pins s _ _ _ I h => h.go pins s I⟩
theorem pW {e : Expr} : PW X e (WW X e) := ⟨fun wh pins s _ _ _ I h => h.go wh pins s I⟩
theorem pA {es : List Expr} : PA X es (WA X es) := ⟨fun pos pins s _ _ _ I h => h.go pos pins s I⟩
theorem pS {st : Stmt} : PS X st (WS X st) := ⟨fun pins s _ _ _ I h => h.go pins s I⟩
theorem pL {st : List Stmt} : PSs X st (WL X st) := ⟨fun pins s _ _ _ I h => h.go pins s I⟩
variable {e a b c : Expr} {es rest : List Expr} {t : TE} {tt : TT} {ta : TA} {ts : TS} {σ : L2.St} {H : Hp} {Q : VK} {R : Bool → Hp → Prop} {U : List V → Hp → Prop} {D : Ends} {pos pos' : Pos} {st : Stmt} {sts : List Stmt} {v : V} {x : Str}
theorem toE (h : PE X e t) (q : t σ H Q) : WE X e σ H Q := ⟨fun pins s I => h.run pins s σ H Q I q⟩
theorem toT (h : PT X e tt) (q : tt σ H R) : WT X e σ H R := ⟨fun pins s I => h.run pins s σ H R I q⟩
theorem toW (h : PW X e tt) (q : tt σ H R) : WW X e σ H R := ⟨fun wh pins s I => h.run wh pins s σ H R I q⟩
theorem toA (h : PA X es ta) (q : ta σ H U) : WA X es σ H U := ⟨fun pos pins s I => h.run pos pins s σ H U I q⟩
theorem toS (h : PS X st ts) (q : ts D σ H) : WS X st D σ H := ⟨fun pins s I => h.run pins s σ H D I q⟩
theorem toL (h : PSs X sts ts) (q : ts D σ H) : WL X sts D σ H := ⟨fun pins s I => h.run pins s σ H D I q⟩
theorem WE.mono {Q' : VK} (h : WE X e σ H Q) (k : ∀ v H', Q v H' → Q' v H') : WE X e σ H Q' := ⟨fun pins s I =>
  thn (h.go pins s I) fun _ _ ⟨v, H', I', r, q⟩ => ⟨v, H', I', r, k v H' q⟩⟩
theorem SP.mono {pins : List (Addr × Obj)} {D' : Ends} {f : Flow} {s' : Shared} (h : SP X pins D f s') (k1 : ∀ σ H, D.nx σ H → D'.nx σ H) (k2 : ∀ v H, D.rt v H → D'.rt v H)
    (k3 : ∀ σ H, D.bk σ H → D'.bk σ H) (k4 : ∀ σ H, D.ct σ H → D'.ct σ H) : SP X pins D' f s' := by
  cases f with
  | next => obtain ⟨σ', H', I, q⟩ := h; exact ⟨σ', H', I, k1 _ _ q⟩
  | brk => obtain ⟨σ', H', I, q⟩ := h; exact ⟨σ', H', I, k3 _ _ q⟩
  | cont => obtain ⟨σ', H', I, q⟩ := h; exact ⟨σ', H', I, k4 _ _ q⟩
  | ret u => obtain ⟨v, σ', H', I, r, q⟩ := h; exact ⟨v, σ', H', I, r, k2 _ _ q⟩
theorem WS.mono {D' : Ends} (h : WS X st D σ H) (k1 : ∀ σ H, D.nx σ H → D'.nx σ H) (k2 : ∀ v H, D.rt v H → D'.rt v H) (k3 : ∀ σ H, D.bk σ H → D'.bk σ H) (k4 : ∀ σ H, D.ct σ H → D'.ct σ H) : WS X st D' σ H :=
  ⟨fun pins s I => thn (h.go pins s I) fun _ _ q => SP.mono q k1 k2 k3 k4⟩
/-- cut behind a statement: P stands there -/
theorem WS.cut {D : Ends} {nx : L2.St → Hp → Prop} (P : L2.St → Hp → Prop) (h : WS X st { D with nx := P } σ H) (k : ∀ σ H, P σ H → nx σ H) : WS X st { D with nx := nx } σ H :=
  WS.mono h k (fun _ _ q => q) (fun _ _ q => q) (fun _ _ q => q)

/-! expressions -/
theorem e_var (i : Nat) (h : σ[i]? = some (some v)) (q : Q v H) (hN : X.N[i]? = some x := by rfl) (hv : Vis X.env.scope x := by first | exact Or.inl rfl | exact Or.inr (Or.inl rfl) | exact Or.inr (Or.inr rfl))
    (hd : (x == ("__debug__" : Str)) = false := by decide) (hcd : (x == ("__classdict__" : Str)) = false := by decide) : WE X (.Name x pos) σ H Q := toE (pe_var hN hv hd hcd) ⟨v, h, q⟩
theorem e_int {i : Int} {j} (q : Q (.int i) H) : WE X (.Constant (.int i) j pos) σ H Q := toE pe_int q
theorem e_bl {i : Bool} {j} (q : Q (.bl i) H) : WE X (.Constant (.bool i) j pos) σ H Q := toE pe_bl q
theorem e_non {j} (q : Q .non H) : WE X (.Constant .none j pos) σ H Q := toE pe_non q
theorem e_str {z : Str} {j} (q : Q (.str z) H) : WE X (.Constant (.str z) j pos) σ H Q := toE pe_str q
theorem e_glob {u : Value} (hm : X.mg x = some u) (r : RelV v u) (q : Q v H) (hg : Gl X x := by rfl) (hd : (x == ("__debug__" : Str)) = false := by decide) : WE X (.Name x pos) σ H Q := toE (pe_glob hg hm r hd) q
theorem e_bltn {u : Value} (hm : X.mg x = none) (hv : bootBuiltins x = some u) (r : RelV v u) (q : Q v H) (hg : Gl X x := by rfl) (hn : x ≠ "__name__" := by decide) (hd : (x == ("__debug__" : Str)) = false := by decide) : WE X (.Name x pos) σ H Q :=
  toE (pe_bltn hg hm hv r hn hd) q
theorem e_op {op : Operator} {r : R2} (ho : OpR X (binaryOp op) r) (h : WE X a σ H fun x H1 => WE X b σ H1 fun y H2 => r x y H2 Q) : WE X (.BinOp a op b pos) σ H Q := toE (pe_op ho pE pE) h
theorem e_un {op : UnaryOp} {r : V → Hp → VK → Prop} (ho : UnR X (unaryOp op) r) (h : WE X a σ H fun x H1 => r x H1 Q) : WE X (.UnaryOp op a pos) σ H Q := toE (pe_un ho pE) h
theorem e_cmp {op : CmpOp} {r : R2} (ho : OpR X (compareOp op) r) (h : WE X a σ H fun x H1 => WE X b σ H1 fun y H2 => r x y H2 Q) (hm : behindInMarks op b = false := by first | exact nomark _ | with_unfolding_all rfl) : WE X (.Compare a [op] [b] pos) σ H Q :=
  toE (pe_cmpR ho pE pE hm) h
theorem e_and (h : WE X a σ H fun x H1 => ∃ k, x = .bl k ∧ (k = true → WE X (.BoolOp .And (b :: rest) pos) σ H1 Q) ∧ (k = false → Q (.bl false) H1)) : WE X (.BoolOp .And (a :: b :: rest) pos) σ H Q :=
  toE (pe_and pE pE) (WE.mono h fun v H' ⟨k, e, h1, h2⟩ => ⟨k, e, by cases k with | true => exact h1 rfl | false => exact h2 rfl⟩)
theorem e_or (h : WE X a σ H fun x H1 => ∃ k, x = .bl k ∧ (k = true → Q (.bl true) H1) ∧ (k = false → WE X (.BoolOp .Or (b :: rest) pos) σ H1 Q)) : WE X (.BoolOp .Or (a :: b :: rest) pos) σ H Q :=
  toE (pe_or pE pE) (WE.mono h fun v H' ⟨k, e, h1, h2⟩ => ⟨k, e, by cases k with | true => exact h1 rfl | false => exact h2 rfl⟩)
theorem e_one {op} (h : WE X a σ H Q) : WE X (.BoolOp op [a] pos) σ H Q := toE (pe_one pE) h
theorem e_not (h : WE X a σ H fun x H1 => ∃ k, x = .bl k ∧ Q (.bl (!k)) H1) : WE X (.UnaryOp .Not a pos) σ H Q := toE (pe_not pE) h
theorem e_if (h : WT X c σ H fun k H1 => (k = true → WE X a σ H1 Q) ∧ (k = false → WE X b σ H1 Q)) : WE X (.IfExp c a b pos) σ H Q :=
  toE (pe_ifExp (tA := fun σ H R => WT X c σ H R) pT pE pE) ⟨fun pins s I => thn (h.go pins s I) fun k s' ⟨H', I', h1, h2⟩ => ⟨H', I', by cases k with | true => exact h1 rfl | false => exact h2 rfl⟩⟩
theorem e_tup {k} (h : WA X es σ H fun xs H1 => xs.length ≤ sizeLine ∧ ∀ p, H1 p = none → Q (.ref p) (upd H1 p (.tup xs))) : WE X (.Tuple es k pos) σ H Q := toE (pe_tup pA) h
theorem e_lst (h : WA X es σ H fun xs H1 => xs.length ≤ sizeLine ∧ ∀ p, H1 p = none → Q (.ref p) (upd H1 p (.lst xs))) : WE X (.List es pos) σ H Q := toE (pe_lst pA) h
theorem e_ix {r : R2} (hr : IxR X r) (h : WE X a σ H fun x H1 => WE X b σ H1 fun y H2 => r x y H2 Q) (hs : PlainIx b := by exact fun _ _ => rfl) : WE X (.Subscript a b pos) σ H Q := toE (pe_ix hr pE pE hs) h
theorem e_callB {id : String} {r : List V → Hp → VK → Prop} {p : Pos} (hc : CallR X (.builtin id) r) (hm : X.mg x = none) (hv : bootBuiltins x = some (.builtin id)) (h : WA X (e :: es) σ H fun vs H1 => r vs H1 Q) (hg : Gl X x := by rfl)
    (hn : x ≠ "__name__" := by decide) (hdb : (x == ("__debug__" : Str)) = false := by decide) (he : starEach (e :: es) X.env = (false, eval e X.env) :: starEach es X.env := by rfl) (hpl : (backTo pos (starEach es X.env)).any (·.1) = false := by rfl) :
    WE X (.Call (.Name x p) (e :: es) [] pos) σ H Q := toE (pe_callB hc hg hm hv pA hn hdb he hpl) h
theorem e_callT {T : String} {r : List V → Hp → VK → Prop} {p : Pos} (hc : CallR X (.type T) r) (hm : X.mg x = none) (hv : bootBuiltins x = some (.type T)) (h : WA X (e :: es) σ H fun vs H1 => r vs H1 Q) (hg : Gl X x := by rfl)
    (hn : x ≠ "__name__" := by decide) (hdb : (x == ("__debug__" : Str)) = false := by decide) (he : starEach (e :: es) X.env = (false, eval e X.env) :: starEach es X.env := by rfl) (hpl : (backTo pos (starEach es X.env)).any (·.1) = false := by rfl) :
    WE X (.Call (.Name x p) (e :: es) [] pos) σ H Q := toE (pe_callTy hc hg hm hv pA hn hdb he hpl) h
theorem a_nil (q : U [] H) : WA X [] σ H U := toA pa_nil q
theorem a_cons (h : WE X e σ H fun x H1 => WA X es σ H1 fun xs H2 => U (x :: xs) H2) (hs : starEach (e :: es) X.env = (false, eval e X.env) :: starEach es X.env := by rfl) : WA X (e :: es) σ H U := toA (pa_cons pE pA hs) h

/-! tests -/
theorem t_cmp {op : CmpOp} {r : R2} (ho : OpR X (compareOp op) r) (h : WE X a σ H fun x H1 => WE X b σ H1 fun y H2 => r x y H2 fun z H3 => ∃ k, z = .bl k ∧ R k H3) (hm : behindInMarks op b = false := by first | exact nomark _ | with_unfolding_all rfl) : WT X (.Compare a [op] [b] pos) σ H R :=
  toT (pt_cmpR ho pE pE hm) h
theorem t_chain {op op' : CmpOp} {r r' : R2} (ho : OpR X (compareOp op) r) (ho' : OpR X (compareOp op') r') (h : tChain r r' (WE X a) (WE X b) (WE X c) σ H fun z H3 => ∃ k, z = .bl k ∧ R k H3)
    (hm : lastMarks [op, op'] [b, c] = false := by with_unfolding_all rfl) : WT X (.Compare a [op, op'] [b, c] pos) σ H R := toT (pt_chain ho ho' pE pE pE hm) h
theorem e_chain {op op' : CmpOp} {r r' : R2} (ho : OpR X (compareOp op) r) (ho' : OpR X (compareOp op') r') (h : tChain r r' (WE X a) (WE X b) (WE X c) σ H Q)
    (hm : lastMarks [op, op'] [b, c] = false := by with_unfolding_all rfl) : WE X (.Compare a [op, op'] [b, c] pos) σ H Q := toE (pe_chain ho ho' pE pE pE hm) h
theorem t_not (h : WT X a σ H fun k H1 => R (!k) H1) : WT X (.UnaryOp .Not a pos) σ H R := toT (pt_not pT) h
theorem WT.mono {R' : Bool → Hp → Prop} (h : WT X e σ H R) (k : ∀ b H', R b H' → R' b H') : WT X e σ H R' := ⟨fun pins s I => thn (h.go pins s I) fun _ _ ⟨H', I', q⟩ => ⟨H', I', k _ H' q⟩⟩
theorem w_and (h : WT X a σ H fun k H1 => (k = true → WW X (.BoolOp .And (b :: rest) pos) σ H1 R) ∧ (k = false → R false H1)) : WW X (.BoolOp .And (a :: b :: rest) pos) σ H R :=
  toW (pw_and pT pW) (WT.mono h fun k H' ⟨h1, h2⟩ => by cases k with | true => exact h1 rfl | false => exact h2 rfl)
theorem w_or (h : WT X a σ H fun k H1 => (k = true → R true H1) ∧ (k = false → WW X (.BoolOp .Or (b :: rest) pos) σ H1 R)) : WW X (.BoolOp .Or (a :: b :: rest) pos) σ H R :=
  toW (pw_or pT pW) (WT.mono h fun k H' ⟨h1, h2⟩ => by cases k with | true => exact h1 rfl | false => exact h2 rfl)
theorem w_and1 (h : WT X a σ H R) : WW X (.BoolOp .And [a] pos) σ H R := toW (pw_and1 pT) h
theorem w_or1 (h : WT X a σ H R) : WW X (.BoolOp .Or [a] pos) σ H R := toW (pw_or1 pT) h
theorem t_w (h : WW X e σ H R) : WT X e σ H R := ⟨fun pins s I => h.go _ pins s I⟩
theorem t_val (h : WE X e σ H fun x H1 => ∃ k, x = .bl k ∧ R k H1) (he : ∀ whole, isTrue e X.env whole = (do let v ← whole; standAt e.pos; holding [v] (truthy v)) := by intro _; rfl) : WT X e σ H R := toT (pt_val pE he) h
theorem t_tru (h : WE X e σ H fun x H1 => ∃ k, TruV X.K x H1 k ∧ R k H1) (he : ∀ whole, isTrue e X.env whole = (do let v ← whole; standAt e.pos; holding [v] (truthy v)) := by intro _; rfl) : WT X e σ H R := toT (pt_truth pE he) h

/-! statements -/
theorem l_nil (q : D.nx σ H) : WL X [] D σ H := toL pss_nil q
theorem l_cons (h : WS X st { D with nx := fun σ' H' => WL X sts D σ' H' } σ H) : WL X (st :: sts) D σ H := toL (pss_cons pS pL) h
theorem l_one (h : WS X st D σ H) : WL X [st] D σ H := toL (pss_one pS) h
theorem s_ret (h : WE X e σ H D.rt) : WS X (.Return (some e) pos) D σ H := toS (ps_ret pE) h
theorem s_if {l1 l2 : List Stmt} (h : WT X c σ H fun k H1 => (k = true → WL X l1 D σ H1) ∧ (k = false → WL X l2 D σ H1)) : WS X (.If c l1 l2 pos) D σ H :=
  toS (ps_if pT pL pL) (WT.mono h fun k H' ⟨h1, h2⟩ => by cases k with | true => exact h1 rfl | false => exact h2 rfl)
theorem s_set (i : Nat) (h : WE X e σ H fun v H1 => D.nx (σ.set i (some v)) H1) (hN : X.N.Nodup) (hi : X.N[i]? = some x := by rfl) (hx : Loc X.env.scope x := by first | exact Or.inl rfl | exact Or.inr rfl)
    (hs : swapsWith e (some (.Name x pos')) pos.line X.env = pure false := by rfl) (hf : X.fn x = true ∨ X.env.scope.names.lookup x = some .local := by first | exact .inl rfl | exact .inr rfl | assumption) : WS X (.Assign [.Name x pos'] e pos) D σ H :=
  toS (ps_set hN hi hx pE hs hf) h
theorem s_expr (h : WE X e σ H fun _ H1 => D.nx σ H1) (hs : swapsWith e none pos.line X.env = pure false := by rfl) : WS X (.Expr e pos) D σ H := toS (ps_expr pE hs) h
theorem s_asg {tg : Expr} {g : TG} (hg : PG X tg g) (h : WE X e σ H fun v H1 => g v σ H1 D.nx) (hs : swapsWithSole [tg] e pos.line X.env = pure false := by rfl) (hw : swappedStores [tg] e X.env = pure none := by rfl)
    (h1 : (assignEach [tg] X.env).map (·.2) = [assign tg X.env] := by rfl) : WS X (.Assign [tg] e pos) D σ H := toS (ps_asg pE hg hs hw h1) h
end
end My

namespace My
open PySem PySem.Spec PyProof.Rows L2

/-! ### defs that may ask for a repr: called where no repr runs -/
structure FnG (P : Program) (w : World) (K : PySem.W.Frag) (mg : Str → Option Value) (base : Heap) (k : Nat) (f : Addr) (fd : FuncData) (ps : List Str) (sp : Sp) : Prop where
  len : ∀ vs H Q E, sp vs H Q E → vs.length = ps.length
  go : ∀ (B : Around) (out : List Env) (s : Shared) (H : Hp) (ar : Args) (us : List Value) (vs : List V) (Q : VK) (E : XK), Room k B → B.guards = some [] → Env0 P w K mg base B out s H →
    BindsTo s fd ar (ps.zip us) → Vals vs us → sp vs H Q E → codeAny (model P w) B (.call (.ref f) ar) (CR CX0 out P w H s Q E) s
theorem FnG.of {P : Program} {w : World} {K : PySem.W.Frag} {mg : Str → Option Value} {base : Heap} {k : Nat} {f : Addr} {fd : FuncData} {ps : List Str} {sp : Sp} (F : FnOk P w K mg base CX0 k f fd ps sp) : FnG P w K mg base k f fd ps sp :=
  ⟨F.len, fun B out s H ar us vs Q E hr _ e hb hv hs => F.run B out s H ar us vs Q E hr e hb hv hs⟩
/-- a def's body, run where no repr runs -/
theorem Fun.okG {P : Program} {w : World} {K : PySem.W.Frag} {mg : Str → Option Value} {base : Heap} {x qual : Str} {st : Stmt} {f : Addr} {fd : FuncData} {N ps : List Str} {k : Nat} {sp : Sp} (F : Fun K x qual st f fd) (S : FnScope N ps (defScope st))
    (len : ∀ vs H Q E, sp vs H Q E → vs.length = ps.length)
    (body : ∀ (cdv : Value) (B : Around) (out : List Env) (s : Shared) (H : Hp) (vs : List V) (Q : VK) (E : XK), Room k (B.deeper (envOfC qual (defScope st) s.heap.objs.size f cdv)) →
      (B.deeper (envOfC qual (defScope st) s.heap.objs.size f cdv)).guards = some [] → sp vs H Q E →
      WL (cxOf CX0 P w K mg base N qual (defScope st) f cdv B out s H E).nox (defBody st) { nx := fun _ H' => Q .non H', rt := Q } (start N vs) H) : FnG P w K mg base (k + 1) f fd ps sp := by
  obtain ⟨oc, od, kV, doc, pm, an, cdv, ct, osl, rfl, lk, hcd⟩ := F.ex
  constructor
  · exact len
  · intro B out s H ar us vs Q E hr hG e hb hv hs
    have nv : vs.length = ps.length := len _ _ _ _ hs
    have inK : K.In s.heap := e.mod.kin.keeps fun b o z => (e.bs b o z).1
    have free : s.heap.NoLimit := e.mod.nolimit.keeps fun b o z => (e.bs b o z).1
    refine codeAny_call_function hr.depth (inK _ _ lk) rfl S.co S.gen rfl (PySem.W.codeRec_of inK hcd) (hb _ _ _ _ ?_)
    refine wpAny_newFunctionEnv_cells S.kind (fun y hy => ?_) fun env he s1 z => ?_
    · rcases S.par y.1 (List.of_mem_zip (a := y.1) (b := y.2) hy).1 with q | q
      · exact Or.inl q
      · exact Or.inr ⟨q, PySem.W.cellsFrom_some _ _ _ (Or.inl q)⟩
    · subst he
      refine ⟨free.keeps z.toInCall.keep, codeAny_func ?_⟩
      have hq := body cdv B out s H vs Q E (hr.deeper _) hG hs
      have I : Inv (cxOf CX0 P w K mg base N qual (defScope st) f cdv B out s H E) [] (start N vs) H s1 := inv_start S hr.hd e nv hv z
      have run := (pL (X := (cxOf CX0 P w K mg base N qual (defScope st) f cdv B out s H E).nox)).nox.run [] s1 (start N vs) H _ I hq
      refine wpAny_mono run (fun fl s' q => ?_) fun _ _ q => q
      cases fl with
      | brk => obtain ⟨_, _, _, q⟩ := q; exact q.elim
      | cont => obtain ⟨_, _, _, q⟩ := q; exact q.elim
      | next => obtain ⟨σ', H', J, q⟩ := q; exact ⟨V.non, H', J.os, J.bare, J.base, J.hok, rfl, q⟩
      | ret u => obtain ⟨v, σ', H', J, rv, q⟩ := q; exact ⟨v, H', J.os, J.bare, J.base, J.hok, rv, q⟩
theorem Fun.okW {P : Program} {w : World} {K : PySem.W.Frag} {mg : Str → Option Value} {base : Heap} {x qual : Str} {st : Stmt} {f : Addr} {fd : FuncData} {N ps : List Str} {k : Nat} {sp : Sp} (F : Fun K x qual st f fd) (S : FnScope N ps (defScope st))
    (len : ∀ vs H Q E, sp vs H Q E → vs.length = ps.length)
    (body : ∀ (cdv : Value) (B : Around) (out : List Env) (s : Shared) (H : Hp) (vs : List V) (Q : VK) (E : XK), Room k (B.deeper (envOfC qual (defScope st) s.heap.objs.size f cdv)) → sp vs H Q E →
      WL (cxOf CX0 P w K mg base N qual (defScope st) f cdv B out s H E).nox (defBody st) { nx := fun _ H' => Q .non H', rt := Q } (start N vs) H) : FnOk P w K mg base CX0 (k + 1) f fd ps sp :=
  F.ok S len fun cdv A outer s H vs Q E hr h => ⟨_, pL, body cdv A outer s H vs Q E hr h⟩
/-- all of a def, by its name -/
structure CalN (P : Program) (w : World) (K : PySem.W.Frag) (mg : Str → Option Value) (base : Heap) (k : Nat) (x : Str) (sp : Sp) : Prop where
  ex : ∃ (f : Addr) (fd : FuncData) (ps : List Str), FnOk P w K mg base CX0 k f fd ps sp ∧ mg x = some (.ref f) ∧ PySem.W.keepIn K (.ref f) = true ∧ Binds K fd ps []
/-- all of a def that may ask for a repr, by its name -/
structure CalG (P : Program) (w : World) (K : PySem.W.Frag) (mg : Str → Option Value) (base : Heap) (k : Nat) (x : Str) (sp : Sp) : Prop where
  ex : ∃ (f : Addr) (fd : FuncData) (ps : List Str), FnG P w K mg base k f fd ps sp ∧ mg x = some (.ref f) ∧ PySem.W.keepIn K (.ref f) = true ∧ Binds K fd ps []
section
variable {X : Cx} {e : Expr} {es : List Expr} {σ : L2.St} {H : Hp} {Q : VK} {pos p : Pos} {x : Str} {k j : Nat} {sp : Sp}
theorem e_c (c : CalN X.prog X.w X.K X.mg X.base k x sp) (hr : Room j X.A) (hk : k ≤ j) (h : WA X (e :: es) σ H fun vs H1 => sp (vs ++ []) H1 Q E0) (hg : Gl X x := by rfl)
    (hdb : (x == ("__debug__" : Str)) = false := by decide) (he : starEach (e :: es) X.env = (false, eval e X.env) :: starEach es X.env := by rfl) (hpl : (backTo pos (starEach es X.env)).any (·.1) = false := by rfl) :
    WE X (.Call (.Name x p) (e :: es) [] pos) σ H Q := by
  obtain ⟨f, fd, ps, F, hm, kp, hb⟩ := c.ex
  exact toE (pe_call F (hr.mono hk) hg hm kp hb .nil pass0 pA hdb he hpl) h
theorem e_cG (c : CalG X.prog X.w X.K X.mg X.base k x sp) (hr : Room j X.A) (hG : X.A.guards = some []) (hk : k ≤ j) (h : WA X (e :: es) σ H fun vs H1 => sp vs H1 Q E0) (hg : Gl X x := by rfl)
    (hdb : (x == ("__debug__" : Str)) = false := by decide) (he : starEach (e :: es) X.env = (false, eval e X.env) :: starEach es X.env := by rfl) (hpl : (backTo pos (starEach es X.env)).any (·.1) = false := by rfl) :
    WE X (.Call (.Name x p) (e :: es) [] pos) σ H Q := by
  obtain ⟨f, fd, ps, F, hm, kp, hb⟩ := c.ex
  constructor
  intro pins s I
  refine wpAny_Call_Name_kw (ld_glob I hg hm ?_ hdb)
  refine PySem.W.callWith_K (h₀ := X.base) I.ok.mod.kin kp (thn (h.go pos pins s I) fun us s1 ⟨vs, H1, I1, r, q⟩ => ⟨I1.kIn, ?_⟩) he hpl
  have nl : (us ++ []).length = ps.length := by rw [List.append_nil, ← r.length]; exact F.len _ _ _ _ q
  refine wpAny_call (codeAny_mono (F.go X.A X.stack s1 H1 ⟨us, []⟩ us vs Q E0 (hr.mono hk) hG I1.env0 (by simpa using hb s1 us I1.kIn nl) r q) fun r' s' z => ?_)
  cases r' with
  | error _ => exact z.elim
  | ok fl =>
    cases fl with
    | ret u => exact I1.after z
    | next => exact z.elim
    | brk => exact z.elim
    | cont => exact z.elim
end

/-! ### data and its repr -/
theorem Dp.noDict : ∀ (d : PyData) {K : PySem.W.Frag} {H : Hp} {v : V}, Dp K H v d → d.hasDict = false
  | .none, _, _, _, _ => rfl
  | .bool _, _, _, _, _ => rfl
  | .int _, _, _, _, _ => rfl
  | .str _, _, _, _, _ => rfl
  | .list ds, _, _, _, h => by cases h with | lst _ ha => exact noDictAll ds ha
  | .tuple ds, _, _, _, h => by cases h with | tup _ ha => exact noDictAll ds ha
  | .dict _, _, _, _, h => by cases h
where noDictAll : ∀ (ds : List PyData) {K : PySem.W.Frag} {H : Hp} {vs : List V}, DpAll K H vs ds → PyData.hasDictAll ds = false
  | [], _, _, _, _ => rfl
  | d :: ds, _, _, _, h => by
    cases h with
    | cons h1 h2 =>
      show (PyData.hasDict d || PyData.hasDictAll ds) = false
      rw [Dp.noDict d h1, noDictAll ds h2]
      rfl
/-- data at any depth, or a dict of scalars -/
def kD : Key → PyData
  | .inl i => .int i
  | .inr x => .str x
inductive Da (K : PySem.W.Frag) (H : Hp) : V → PyData → Prop
  | dp {v : V} {d : PyData} (h : Dp K H v d) : Da K H v d
  | dct {a : Addr} {kvs : List (Key × V)} {ds : List PyData} (h : H a = some (.dK kvs)) (e : DpAll K H (kvs.map (·.2)) ds) (flat : ∀ d ∈ ds, ∃ x, d = .str x ∨ ∃ i, d = .int i) : Da K H (.ref a) (.dict ((kvs.map fun p => kD p.1).zip ds))
section
variable {X : Cx} {pins : List (Addr × Obj)} {σ : L2.St} {H : Hp} {s : Shared}
theorem call_repr (hG : X.A.guards = some []) (hu : X.A.units + 64 < cLine) : CallR X (.builtin "repr") (fun xs H Q => ∃ x d, xs = [x] ∧ Dp X.K H x d ∧ d.showable = true ∧ d.depth ≤ 60 ∧ d.shown.length ≤ sizeLine ∧ Q (.str d.shown) H) := by
  intro pins s σ H xs us Q I r h
  obtain ⟨x, d, rfl, hd, hs, hp, hz, q⟩ := h
  obtain ⟨u, rfl, rx⟩ := vals1 r
  have nd := Dp.noDict d hd
  obtain ⟨as, rd⟩ := Dp.reads I d x u hd rx
  cases hd with
  | non => cases rx; exact PySem.P.repr_of_none ⟨.str _, H, I.tok _, ⟨_, rfl⟩, q⟩
  | bl b => cases rx; exact PySem.P.repr_of_bool ⟨.str _, H, I.tok _, ⟨_, rfl⟩, q⟩
  | int i =>
    obtain ⟨t, rfl⟩ := rx
    exact PySem.P.repr_of_int (by simpa [PyData.showable] using hs) ⟨.str _, H, I.tok _, ⟨_, rfl⟩, q⟩
  | str z =>
    obtain ⟨t, rfl⟩ := rx
    exact PySem.P.repr_of_str ⟨.str _, H, I.tok _, ⟨_, rfl⟩, q⟩ hz
  | lst _ _ =>
    cases rx
    exact repr_of_reads' rd hs (fun z => by rw [nd] at z; cases z) hG (by omega) (fun _ _ e => e) (fun h' t tk hk => ⟨.str _, H, I.kept hk, ⟨_, rfl⟩, q⟩) hz
  | tup _ _ =>
    cases rx
    exact repr_of_reads' rd hs (fun z => by rw [nd] at z; cases z) hG (by omega) (fun _ _ e => e) (fun h' t tk hk => ⟨.str _, H, I.kept hk, ⟨_, rfl⟩, q⟩) hz
end
end My

namespace My
open PySem PySem.Spec PyProof.Rows L2
section
variable {X : Cx} {σ : L2.St} {H : Hp} {Q : VK} {pos : Pos} {elt tg iter : Expr} {scope : Scope} {x : Str} {j : Nat}
/-- the block of a comprehension, in whatever frame it runs -/
def WB (X : Cx) (scope : Scope) (e : Expr) : TE := fun σ H Q => ∀ (s : Shared) (H0 : Hp) (C : Addr) (cl : List (Str × Addr)) (fp : List Addr), WE (X.blk s H0 scope (compEnvC scope cl C X.env) fp) e σ H Q
def WBT (X : Cx) (scope : Scope) (e : Expr) : TT := fun σ H R => ∀ (s : Shared) (H0 : Hp) (C : Addr) (cl : List (Str × Addr)) (fp : List Addr), WT (X.blk s H0 scope (compEnvC scope cl C X.env) fp) e σ H R
theorem set_wipe (σ : L2.St) (j : Nat) (v : V) : wipe ((wipe σ [j]).set j (some v)) [j] = wipe σ [j] := by
  show ((σ.set j none).set j (some v)).set j none = σ.set j none
  rw [List.set_set, List.set_set]
theorem e_lc {wi : TI} {pt : Pos} (j : Nat) (hi : PI X (.Name x pt) iter wi) (hN : X.N.Nodup) (ok : BlkOk X.N X.env.scope scope [(x, j)])
    (hg : ∀ (s : Shared) (H : Hp) (C : Addr) (cl : List (Str × Addr)) (fp : List Addr), PG (X.blk s H scope (compEnvC scope cl C X.env) fp) (.Name x pt) (gName j))
    (h : tLc wi (gName j) tYes (WB X scope elt) [j] σ H Q) (hc : X.calm = true := by rfl) (hs : ∀ z, foldedSetIterable iter X.env z = pure z := by intro _; rfl) :
    WE X (.ListComp elt [⟨.Name x pt, iter, [], 0⟩] scope pos) σ H Q :=
  toE (pe_lc (own := [(x, j)]) hc hN hi ok hg (fun _ _ _ _ _ => pts_nil) (fun s H0 C cl fp => ⟨fun pins s' σ' H' Q' I q => (q s H0 C cl fp).go pins s' I⟩) hs) h
/-- over a list: Pv by the turn and the heap, D the new list -/
theorem e_lcL {pt : Pos} (j : Nat) (hN : X.N.Nodup) (ok : BlkOk X.N X.env.scope scope [(x, j)])
    (h : WE X iter σ H fun v H1 => ∃ a xs, v = .ref a ∧ SqL X.K H1 a xs ∧ ∀ D, H1 D = none → ∃ Pv : Nat → Hp → Prop, Pv 0 (upd H1 D (.lst [])) ∧ (∀ i H, i ≤ xs.length → Pv i H → SqL X.K H a xs) ∧
      (∀ i y H, xs[i]? = some y → Pv i H → WB X scope elt ((wipe σ [j]).set j (some y)) H fun z H4 => ∃ acc, H4 D = some (.lst acc) ∧ acc.length < sizeLine ∧ Pv (i + 1) (upd H4 D (.lst (acc ++ [z])))) ∧
      ∀ H, Pv xs.length H → Q (.ref D) H)
    (hg : ∀ (s : Shared) (H : Hp) (C : Addr) (cl : List (Str × Addr)) (fp : List Addr), PG (X.blk s H scope (compEnvC scope cl C X.env) fp) (.Name x pt) (gName j))
    (hc : X.calm = true := by rfl) (hs : ∀ z, foldedSetIterable iter X.env z = pure z := by intro _; rfl) :
    WE X (.ListComp elt [⟨.Name x pt, iter, [], 0⟩] scope pos) σ H Q :=
  e_lc j (pi_list pE) hN ok hg (WE.mono h fun v H1 ⟨a, xs, e, hS, k⟩ => ⟨a, e, ⟨xs, hS⟩, fun D nD => by
    obtain ⟨Pv, p0, pl, ps, pd⟩ := k D nD
    exact lc_list (g := gName j) (tt := tYes) (te := WB X scope elt) (vs := [j]) (σ := σ) Pv p0 pl (fun i y H hi p => ⟨set_wipe σ j y, ps i y H hi p⟩) pd⟩) hc hs
theorem e_lcT {pt : Pos} (j : Nat) (hN : X.N.Nodup) (ok : BlkOk X.N X.env.scope scope [(x, j)])
    (h : WE X iter σ H fun v H1 => ∃ a xs, v = .ref a ∧ SqT X.K H1 a xs ∧ ∀ D, H1 D = none → ∃ Pv : Nat → Hp → Prop, Pv 0 (upd H1 D (.lst [])) ∧ (∀ i H, i ≤ xs.length → Pv i H → SqT X.K H a xs) ∧
      (∀ i y H, xs[i]? = some y → Pv i H → WB X scope elt ((wipe σ [j]).set j (some y)) H fun z H4 => ∃ acc, H4 D = some (.lst acc) ∧ acc.length < sizeLine ∧ Pv (i + 1) (upd H4 D (.lst (acc ++ [z])))) ∧
      ∀ H, Pv xs.length H → Q (.ref D) H)
    (hg : ∀ (s : Shared) (H : Hp) (C : Addr) (cl : List (Str × Addr)) (fp : List Addr), PG (X.blk s H scope (compEnvC scope cl C X.env) fp) (.Name x pt) (gName j))
    (hc : X.calm = true := by rfl) (hs : ∀ z, foldedSetIterable iter X.env z = pure z := by intro _; rfl) :
    WE X (.ListComp elt [⟨.Name x pt, iter, [], 0⟩] scope pos) σ H Q :=
  e_lc j (pi_tup pE) hN ok hg (WE.mono h fun v H1 ⟨a, xs, e, hS, k⟩ => ⟨a, e, ⟨xs, hS⟩, fun D nD => by
    obtain ⟨Pv, p0, pl, ps, pd⟩ := k D nD
    exact lc_tup (g := gName j) (tt := tYes) (te := WB X scope elt) (vs := [j]) (σ := σ) Pv p0 pl (fun i y H hi p => ⟨set_wipe σ j y, ps i y H hi p⟩) pd⟩) hc hs
theorem WA.mono {es : List Expr} {U U' : List V → Hp → Prop} (h : WA X es σ H U) (k : ∀ vs H', U vs H' → U' vs H') : WA X es σ H U' := ⟨fun pos pins s I => thn (h.go pos pins s I) fun _ _ ⟨vs, H', I', r, q⟩ => ⟨vs, H', I', r, k vs H' q⟩⟩
/-- over range(n) -/
theorem e_lcR {a : Expr} {p pc pt : Pos} (j : Nat) (hm : X.mg "range" = none) (hN : X.N.Nodup) (ok : BlkOk X.N X.env.scope scope [(x, j)])
    (h : WE X a σ H fun v H1 => ∃ n : Nat, v = .int n ∧ n < 2 ^ 62 ∧ ∀ D, H1 D = none → ∃ Pv : Nat → Hp → Prop, Pv 0 (upd H1 D (.lst [])) ∧
      (∀ i H, i < n → Pv i H → WB X scope elt ((wipe σ [j]).set j (some (.int i))) H fun z H4 => ∃ acc, H4 D = some (.lst acc) ∧ acc.length < sizeLine ∧ Pv (i + 1) (upd H4 D (.lst (acc ++ [z])))) ∧
      ∀ H, Pv n H → Q (.ref D) H)
    (hg : ∀ (s : Shared) (H : Hp) (C : Addr) (cl : List (Str × Addr)) (fp : List Addr), PG (X.blk s H scope (compEnvC scope cl C X.env) fp) (.Name x pt) (gName j))
    (hgl : Gl X "range" := by rfl) (hst : starEach [a] X.env = [(false, eval a X.env)] := by rfl)
    (hc : X.calm = true := by rfl) (hs : ∀ z, foldedSetIterable (.Call (.Name "range" p) [a] [] pc) X.env z = pure z := by intro _; rfl) :
    WE X (.ListComp elt [⟨.Name x pt, .Call (.Name "range" p) [a] [] pc, [], 0⟩] scope pos) σ H Q :=
  e_lc j (pi_range1 hgl hm (pA (es := [a])) hst) hN ok hg (a_cons (WE.mono h fun v H1 ⟨n, e, hn, k⟩ => a_nil ⟨(n : Int), by rw [e], by omega, by omega, fun D nD => by
    obtain ⟨Pv, p0, ps, pd⟩ := k D nD
    have en : ((n : Int)).toNat = n := by omega
    rw [en]
    refine lc_range (g := gName j) (tt := tYes) (te := WB X scope elt) (vs := [j]) (σ := σ) Pv p0 (fun i H hi p => ⟨set_wipe σ j _, ?_⟩) pd
    have e0 : (0 : Int) + (i : Int) = (i : Int) := Int.zero_add _
    rw [e0]
    exact ps i H hi p⟩) (by rw [hst]; rfl)) hc hs
/-- over a text, sign by sign -/
theorem e_lcS {pt : Pos} (j : Nat) (hN : X.N.Nodup) (ok : BlkOk X.N X.env.scope scope [(x, j)])
    (h : WE X iter σ H fun v H1 => ∃ z : Str, v = .str z ∧ ∀ D, H1 D = none → ∃ Pv : Nat → Hp → Prop, Pv 0 (upd H1 D (.lst [])) ∧
      (∀ i c H, z.cps[i]? = some c → Pv i H → WB X scope elt ((wipe σ [j]).set j (some (.str ⟨#[c]⟩))) H fun z H4 => ∃ acc, H4 D = some (.lst acc) ∧ acc.length < sizeLine ∧ Pv (i + 1) (upd H4 D (.lst (acc ++ [z])))) ∧
      ∀ H, Pv z.cps.size H → Q (.ref D) H)
    (hg : ∀ (s : Shared) (H : Hp) (C : Addr) (cl : List (Str × Addr)) (fp : List Addr), PG (X.blk s H scope (compEnvC scope cl C X.env) fp) (.Name x pt) (gName j))
    (hc : X.calm = true := by rfl) (hs : ∀ z, foldedSetIterable iter X.env z = pure z := by intro _; rfl) :
    WE X (.ListComp elt [⟨.Name x pt, iter, [], 0⟩] scope pos) σ H Q :=
  e_lc j (pi_str pE) hN ok hg (WE.mono h fun v H1 ⟨z, e, k⟩ => ⟨z, e, fun D nD => by
    obtain ⟨Pv, p0, ps, pd⟩ := k D nD
    refine ⟨fun i m H => m = z.cps.size - i ∧ i ≤ z.cps.size ∧ Pv i H, ⟨z.cps.size, by simp, Nat.zero_le _, p0⟩, ?_⟩
    rintro i m H ⟨rfl, hi, p⟩
    by_cases hlt : i < z.cps.size
    · refine .inr ⟨hlt, Pv (i + 1), fun H' p' => ⟨z.cps.size - (i + 1), by omega, rfl, hlt, p'⟩, fun y H' hy => ?_⟩
      obtain ⟨rfl, c, hcx, rfl⟩ := hy
      exact ⟨set_wipe σ j _, ps i c _ hcx p⟩
    · have e : i = z.cps.size := by omega
      subst e
      exact .inl ⟨Nat.le_refl _, pd H p⟩⟩) hc hs
end
/-! ### loops -/
section
variable {X : Cx} {σ : L2.St} {H : Hp} {pos : Pos} {tg iter : Expr} {body : List Stmt} {D : Ends} {g : TG}
theorem s_for {wi : TI} (hi : PI X tg iter wi) (hg : PG X tg g) (h : tFor wi g (WL X body) D σ H) (hp : PassesOwn (model X.prog X.w) X.A X.env X.xe) (hc : X.calm = true := by rfl)
    (hs : ∀ x, foldedSetIterable iter X.env x = pure x := by intro _; rfl) : WS X (.For tg iter body [] pos) D σ H := toS (ps_for hp hc hi hg pL hs) h
theorem s_forL (hg : PG X tg g) (h : WE X iter σ H fun v H1 => ∃ a xs, v = .ref a ∧ SqL X.K H1 a xs ∧ ∃ Pv : Nat → L2.St → Hp → Prop, Pv 0 σ H1 ∧ (∀ i σ H, i ≤ xs.length → Pv i σ H → SqL X.K H a xs) ∧
      (∀ i y σ H, xs[i]? = some y → Pv i σ H → g y σ H fun σ2 H2 => WL X body { D with nx := Pv (i + 1), ct := Pv (i + 1), bk := D.nx } σ2 H2) ∧ ∀ σ H, Pv xs.length σ H → D.nx σ H)
    (hp : PassesOwn (model X.prog X.w) X.A X.env X.xe) (hc : X.calm = true := by rfl) (hs : ∀ x, foldedSetIterable iter X.env x = pure x := by intro _; rfl) : WS X (.For tg iter body [] pos) D σ H :=
  s_for (pi_list pE) hg (WE.mono h fun v H1 ⟨a, xs, e, hS, Pv, p0, pl, ps, pd⟩ => ⟨a, e, ⟨xs, hS⟩, for_list Pv p0 pl ps pd⟩) hp hc hs
theorem s_forR {a : Expr} {p pc : Pos} (hm : X.mg "range" = none) (hg : PG X tg g) (h : WE X a σ H fun v H1 => ∃ n : Nat, v = .int n ∧ n < 2 ^ 62 ∧ ∃ Pv : Nat → L2.St → Hp → Prop, Pv 0 σ H1 ∧
      (∀ i σ H, i < n → Pv i σ H → g (.int i) σ H fun σ2 H2 => WL X body { D with nx := Pv (i + 1), ct := Pv (i + 1), bk := D.nx } σ2 H2) ∧ ∀ σ H, Pv n σ H → D.nx σ H)
    (hp : PassesOwn (model X.prog X.w) X.A X.env X.xe) (hgl : Gl X "range" := by rfl) (hst : starEach [a] X.env = [(false, eval a X.env)] := by rfl) (hc : X.calm = true := by rfl)
    (hs : ∀ z, foldedSetIterable (.Call (.Name "range" p) [a] [] pc) X.env z = pure z := by intro _; rfl) : WS X (.For tg (.Call (.Name "range" p) [a] [] pc) body [] pos) D σ H :=
  s_for (pi_range1 hgl hm (pA (es := [a])) hst) hg (a_cons (WE.mono h fun v H1 ⟨n, e, hn, Pv, p0, ps, pd⟩ => a_nil ⟨(n : Int), by rw [e], by omega, by omega, by
    have en : ((n : Int)).toNat = n := by omega
    rw [en]
    refine for_range Pv p0 (fun i σ H hi p => ?_) pd
    have e0 : (0 : Int) + (i : Int) = (i : Int) := Int.zero_add _
    rw [e0]
    exact ps i σ H hi p⟩) (by rw [hst]; rfl)) hp hc hs
end
end My

namespace My
open PySem PySem.Spec PyProof.Rows L2
/-- the call of a law whose def may ask for a repr, from one abstract heap that knows the script at most -/
theorem law_core {P : Program} {w : World} {K : PySem.W.Frag} {mg mb : Str → Option Value} {k : Nat} {fa a : Addr} {fd : FuncData} {x : Str} {sp : Sp} {s₁ : Shared} {vs : List Value} {H : Hp}
    (KX : K.In s₁.heap) (hns : s₁.heap.Ns mainGlobals mg) (hb : s₁.heap.Ns builtinsNs mb) (hbb : ∀ x : Str, x ≠ "__name__" → mb x = bootBuiltins x) (hlim : s₁.heap.NoLimit) (hg : s₁.gens = #[])
    (ha : s₁.heap.get? a = some { cls := .type "list", data := .seq vs.toArray }) (hr : Room k callerA)
    (F : ∀ base : Heap, K.In base → base.Ns mainGlobals mg → FnG P w K mg base k fa fd [x] sp) (bind : ∀ (s : Shared) (u : Value), BindsTo s fd ⟨[u], []⟩ [(x, u)])
    (hO : Only H) (hok : HOk P w H s₁.heap) (at' : ∀ b, H b ≠ none → b = a) (hK : H a ≠ none → K.lookup a = none) (hsp : sp [.ref a] H (fun v _ => v = .bl true) fun _ _ _ => False) :
    codeAny (model P w) callerA (.call (.ref fa) ⟨[.ref a], []⟩) (fun r s' => r = .ok (.ret (.bool true)) ∧ OldK s₁.heap s'.heap ∧ s'.os = s₁.os ∧ AllBare s'.gens) s₁ := by
  have unl : ∀ {b : Addr} {m : Str → Option Value}, s₁.heap.Ns b m → (hidT s₁.heap H).Ns b m := by
    rintro b m ⟨o, es, ep, e, d, r⟩
    refine ⟨o, es, ep, hidT_get e ?_, d, r⟩
    refine Classical.byContradiction fun z => ?_
    have eb := at' b z
    rw [eb, ha] at e
    rw [← Option.some.inj e] at d
    exact Data.noConfusion d
  have inK : K.In (hidT s₁.heap H) := fun b o e => hidT_get (KX b o e) (Classical.byContradiction fun z => by
    have eb := at' b z
    subst eb
    rw [hK z] at e
    cases e)
  have md : Mod K mg (hidT s₁.heap H) := { kin := inK, glob := unl hns, blt := ⟨mb, unl hb, hbb⟩, nolimit := by obtain ⟨mc, h1, h2⟩ := hlim; exact ⟨mc, unl h1, h2⟩ }
  have e0 : Env0 P w K mg (hidT s₁.heap H) callerA [] s₁ H :=
    { frames := rfl, mod := md, bs := fun b o e => of_hidT e, bsz := Nat.le_of_eq (hidT_size _ _), funs := trivial, frf := fun b z => absurd (show b ∈ ([] : List Addr) from z) (by simp), hok := hok, bare := .of_eq hg }
  have run := (F _ inK (unl hns)).go callerA [] s₁ H ⟨[.ref a], []⟩ [.ref a] [.ref a] _ _ hr rfl e0 (bind s₁ (.ref a)) (.cons rfl .nil) hsp
  refine codeAny_mono run fun r s' z => ?_
  match r, z with
  | .error e, z => exact False.elim z
  | .ok .next, z => exact False.elim z
  | .ok .brk, z => exact False.elim z
  | .ok .cont, z => exact False.elim z
  | .ok (.ret u), z =>
    obtain ⟨v, H', h1, h2, h3, h4, h5, h6⟩ := z
    have ev : v = .bl true := h6
    rw [ev] at h5
    have eu : u = Value.bool true := h5
    rw [eu]
    refine ⟨rfl, OldK.of_keep fun b o e => ?_, h1, h2⟩
    rcases hO b with n | ⟨ob, xs, n⟩
    · exact h3.keep b o e n (fun z => by cases z) (fun z => by cases z)
    · obtain ⟨g1, _⟩ := hok b _ n
      obtain ⟨g2, _⟩ := h4 b _ (h3.frzs b ob _ n)
      rw [e] at g1
      rw [Option.some.inj g1]
      exact g2
theorem law_G {P : Program} {w : World} {K : PySem.W.Frag} {mg mb : Str → Option Value} {k : Nat} {fa a : Addr} {fd : FuncData} {x : Str} {sp : Sp} {s₁ : Shared} {vs : List Value} {ns : List Int}
    (KX : K.In s₁.heap) (hns : s₁.heap.Ns mainGlobals mg) (hb : s₁.heap.Ns builtinsNs mb) (hbb : ∀ x : Str, x ≠ "__name__" → mb x = bootBuiltins x) (hlim : s₁.heap.NoLimit) (hg : s₁.gens = #[])
    (ha : s₁.heap.get? a = some { cls := .type "list", data := .seq vs.toArray }) (hi : IntsAre vs ns) (hl : ns.length ≤ sizeLine) (hr : Room k callerA)
    (F : ∀ base : Heap, K.In base → base.Ns mainGlobals mg → FnG P w K mg base k fa fd [x] sp) (bind : ∀ (s : Shared) (u : Value), BindsTo s fd ⟨[u], []⟩ [(x, u)])
    (hsp : ∀ H : Hp, Only H → SqL K H a (ns.map V.int) → sp [.ref a] H (fun v _ => v = .bl true) fun _ _ _ => False) :
    codeAny (model P w) callerA (.call (.ref fa) ⟨[.ref a], []⟩) (fun r s' => r = .ok (.ret (.bool true)) ∧ OldK s₁.heap s'.heap ∧ s'.os = s₁.os ∧ AllBare s'.gens) s₁ := by
  have rv := vals_ints hi
  have nl : vs.length ≤ sizeLine := by rw [hi.length]; exact hl
  cases hk : K.lookup a with
  | some o =>
    have e := KX a o hk
    rw [ha] at e
    have eo := Option.some.inj e
    subst eo
    exact law_core (H := fun _ => none) KX hns hb hbb hlim hg ha hr F bind (fun _ => .inl rfl) (fun b u z => by cases z) (fun b z => absurd rfl z) (fun z => absurd rfl z)
      (hsp _ (fun _ => .inl rfl) (.inr ⟨_, vs.toArray, _, hk, rfl, rfl, rfl, by simpa using nl, by simpa using rv⟩))
  | none =>
    have only : Only (upd (fun _ => none) a (.frz { cls := .type "list", data := .seq vs.toArray } (.lst (ns.map V.int)))) := fun b => by
      by_cases e : b = a
      · exact .inr ⟨_, _, by rw [e, upd_same]⟩
      · exact .inl (upd_ne e)
    refine law_core (H := upd (fun _ => none) a (.frz { cls := .type "list", data := .seq vs.toArray } (.lst (ns.map V.int)))) KX hns hb hbb hlim hg ha hr F bind only (fun b u z => ?_) (fun b z => ?_) (fun _ => hk)
      (hsp _ only (.inl (.inr ⟨_, upd_same⟩)))
    · by_cases e : b = a
      · subst e
        rw [upd_same] at z
        have eu := Option.some.inj z
        subst eu
        exact ⟨ha, by rw [List.length_map]; exact hl, vs, _, rv, ha⟩
      · rw [upd_ne e] at z
        cases z
    · refine Classical.byContradiction fun e => z ?_
      rw [upd_ne e]
theorem walk_G {l : PySem.W.OpenLaw} {n k : Nat} {q : Program} {loose : List Str} {XP : (Str → Option Value) → Heap → Prop} {YP : World → Heap → Prop} {d : DefRec} {K : Params → PySem.W.Frag} {sp : World → Sp} {x : Str}
    (hn : l.most = some n) (hn2 : n ≤ sizeLine) (hdf : d.params.defaults = []) (hr : Room k callerA) (hY : ∀ (w : World) (h : Heap), YP w h → (K w.params).In h)
    (F : ∀ (w : World) (mg : Str → Option Value) (fa : Addr) (h : Heap), (K w.params).In h → h.Ns mainGlobals mg → mg d.name = some (.ref fa) →
      ∃ fd : FuncData, (∀ (s : Shared) (u : Value), BindsTo s fd ⟨[u], []⟩ [(x, u)]) ∧ ∀ base : Heap, (K w.params).In base → base.Ns mainGlobals mg → FnG l.prog w (K w.params) mg base k fa fd [x] (sp w))
    (hsp : ∀ (w : World) (H : Hp) (a : Addr) (ns : List Int), ns.length ≤ n → Only H → SqL (K w.params) H a (ns.map V.int) → sp w [.ref a] H (fun v _ => v = .bl true) fun _ _ _ => False) :
    PySem.W.WalkO q loose XP YP l.row.toRowW d [] (fun f vs => PySem.call f vs) :=
  Att.attach_call hn hdf fun w s₀ s₁ mg mb fa o pm cd doc a vs ns G Y ho hd hcd hmg hobj hints hlen hg => by
    have KX := hY w _ Y
    obtain ⟨fd, bind, f⟩ := F w mg fa _ KX G.T.g hmg
    exact law_G KX G.T.g G.T.b G.T.builtins G.T.nolimit hg hobj hints (Nat.le_trans hlen hn2) hr f bind fun H hO hS => hsp w H a ns hlen hO hS
end My

namespace My
open PySem PySem.Spec PyProof.Rows L2
theorem same_new {H : Hp} {p : Addr} {o : HO} (h : H p = none) : Same H (upd H p o) := fun b x e => by rw [upd_ne (ne_of_none e h)]; exact e
theorem Same.seqT {K : PySem.W.Frag} {H H' : Hp} {a : Addr} {xs : List V} (e : Same H H') (h : SqT K H a xs) : SqT K H' a xs := by
  rcases h with (h | ⟨o, h⟩) | h
  · exact .inl (.inl (e _ _ h))
  · exact .inl (.inr ⟨o, e _ _ h⟩)
  · exact .inr h
/-- a change of what H does not know -/
theorem same_mut {H H' : Hp} {p : Addr} {o : HO} (e : Same H H') (h : H p = none) : Same H (upd H' p o) := fun b x z => by rw [upd_ne (ne_of_none z h)]; exact e b x z
/-- all but the object at p is as it was -/
def But (p : Addr) (H H' : Hp) : Prop := ∀ b o, b ≠ p → H b = some o → H' b = some o
theorem But.refl (p : Addr) (H : Hp) : But p H H := fun _ _ _ e => e
theorem But.trans {p : Addr} {H H1 H2 : Hp} (a : But p H H1) (b : But p H1 H2) : But p H H2 := fun c o n e => b c o n (a c o n e)
theorem But.of {p : Addr} {H H' : Hp} (e : Same H H') : But p H H' := fun b o _ h => e b o h
theorem But.upd {p : Addr} {H : Hp} {o : HO} : But p H (upd H p o) := fun b x n e => by rw [upd_ne n]; exact e
theorem But.free {p a : Addr} {H H' : Hp} (e : But p H H') (n : a ≠ p) (h : H' a = none) : H a = none := by
  cases q : H a with
  | none => rfl
  | some o => rw [e a o n q] at h; cases h
section
variable {X : Cx} {a b c e l : Expr} {es : List Expr} {σ : L2.St} {H : Hp} {Q : VK} {R : Bool → Hp → Prop} {D : Ends} {pos p p2 p3 pc apos : Pos} {x : Str}
/-- e[:h] of a list; of a tuple -/
theorem e_slL {h : Expr} (k : WE X e σ H fun x H1 => WE X h σ H1 fun y H2 => ∃ i a xs, y = .int i ∧ x = .ref a ∧ SqL X.K H2 a xs ∧ ∀ q, H2 q = none → Q (.ref q) (upd H2 q (.lst (cutV xs none (some i))))) :
    WE X (.Subscript e (.Slice none (some h) none p2) pos) σ H Q :=
  toE (pe_slice sl_list pE po_none (po_some pE)) (WE.mono k fun x H1 k1 => WE.mono k1 fun y H2 ⟨i, a, xs, e1, e2, hS, q⟩ => ⟨i, e1, a, xs, e2, hS, q⟩)
theorem e_slT {h : Expr} (k : WE X e σ H fun x H1 => WE X h σ H1 fun y H2 => ∃ i a xs, y = .int i ∧ x = .ref a ∧ SqT X.K H2 a xs ∧ ¬ (HT.sIx xs.length 0 none = 0 ∧ HT.sIx xs.length xs.length (some i) = xs.length) ∧ ∀ q, H2 q = none → Q (.ref q) (upd H2 q (.tup (cutV xs none (some i))))) :
    WE X (.Subscript e (.Slice none (some h) none p2) pos) σ H Q :=
  toE (pe_slice sl_tup pE po_none (po_some pE)) (WE.mono k fun x H1 k1 => WE.mono k1 fun y H2 ⟨i, a, xs, e1, e2, hS, hn, q⟩ => ⟨i, e1, a, xs, e2, hS, hn, q⟩)
/-- ints: a + b, a * b, a % b, a // b -/
theorem e_addI (k : WE X a σ H fun x H1 => WE X b σ H1 fun y H2 => ∃ i j, x = .int i ∧ y = .int j ∧ Q (.int (i + j)) H2) : WE X (.BinOp a .Add b pos) σ H Q := e_op op_add k
theorem e_subI (k : WE X a σ H fun x H1 => WE X b σ H1 fun y H2 => ∃ i j, x = .int i ∧ y = .int j ∧ Q (.int (i - j)) H2) : WE X (.BinOp a .Sub b pos) σ H Q := e_op op_sub k
theorem e_mulI (k : WE X a σ H fun x H1 => WE X b σ H1 fun y H2 => ∃ i j, x = .int i ∧ y = .int j ∧ CMul i j ∧ Q (.int (i * j)) H2) : WE X (.BinOp a .Mult b pos) σ H Q := e_op op_mul k
theorem e_modI (k : WE X a σ H fun x H1 => WE X b σ H1 fun y H2 => ∃ i j, x = .int i ∧ y = .int j ∧ 0 < j ∧ Q (.int (i % j)) H2) : WE X (.BinOp a .Mod b pos) σ H Q := e_op op_mod k
theorem e_divI (k : WE X a σ H fun x H1 => WE X b σ H1 fun y H2 => ∃ i j, x = .int i ∧ y = .int j ∧ CDiv i j ∧ Q (.int (i / j)) H2) : WE X (.BinOp a .FloorDiv b pos) σ H Q := e_op op_fdiv k
theorem e_addS (k : WE X a σ H fun x H1 => WE X b σ H1 fun y H2 => ∃ i j, x = .str i ∧ y = .str j ∧ i.length + j.length ≤ sizeLine ∧ Q (.str (i ++ j)) H2) : WE X (.BinOp a .Add b pos) σ H Q := e_op op_add_str k
theorem e_cat (k : WE X a σ H fun x H1 => WE X b σ H1 fun y H2 => ∃ l m xs zs, x = .ref l ∧ y = .ref m ∧ H2 l = some (.lst xs) ∧ H2 m = some (.lst zs) ∧ xs.length + zs.length ≤ sizeLine ∧ ∀ q, H2 q = none → Q (.ref q) (upd H2 q (.lst (xs ++ zs)))) : WE X (.BinOp a .Add b pos) σ H Q := e_op op_cat k
theorem e_ixL (k : WE X a σ H fun x H1 => WE X b σ H1 fun y H2 => ∃ l xs i v, x = .ref l ∧ y = .int i ∧ SqL X.K H2 l xs ∧ atI xs i = some v ∧ Q v H2) (hs : PlainIx b := by exact fun _ _ => rfl) : WE X (.Subscript a b pos) σ H Q := e_ix ix_list k hs
theorem e_ixT (k : WE X a σ H fun x H1 => WE X b σ H1 fun y H2 => ∃ l xs i v, x = .ref l ∧ y = .int i ∧ SqT X.K H2 l xs ∧ atI xs i = some v ∧ Q v H2) (hs : PlainIx b := by exact fun _ _ => rfl) : WE X (.Subscript a b pos) σ H Q := e_ix ix_tup k hs
theorem mul_sk : OpR X (binaryOp .Mult) (fun x y H Q => ∃ z n, x = .str z ∧ y = .int n ∧ PySem.MulOk z n ∧ Q (.str (Txt.mul z n)) H) := by
  intro pins s σ H x y v u Q I rx ry h
  obtain ⟨z, n, rfl, rfl, hz, q⟩ := h
  obtain ⟨t, rfl⟩ := rx
  obtain ⟨t', rfl⟩ := ry
  exact PySem.SB.mul hz (fun t' k => ⟨.str _, H, I.tok _, ⟨_, rfl⟩, q⟩)
/-- int(e) -/
theorem e_intI (hm : X.mg "int" = none) (k : WE X e σ H fun x H1 => (∃ i, x = .int i ∧ Q (.int i) H1) ∨ ∃ b, x = .bl b ∧ Q (.int (if b then 1 else 0)) H1) (hg : Gl X "int" := by rfl)
    (he : starEach [e] X.env = (false, eval e X.env) :: starEach [] X.env := by rfl) (hpl : (backTo pos (starEach [] X.env)).any (·.1) = false := by rfl) : WE X (.Call (.Name "int" p) [e] [] pos) σ H Q :=
  e_callT call_int1 hm PyProof.Rows.boot_int (a_cons (WE.mono k fun x H1 k1 => a_nil (by
    rcases k1 with ⟨i, rfl, q⟩ | ⟨b, rfl, q⟩
    · exact .inl ⟨i, rfl, q⟩
    · exact .inr ⟨b, rfl, q⟩)) he) hg (by decide) (by decide) he hpl
/-- len(e) -/
theorem e_len (hm : X.mg "len" = none) (k : WE X e σ H fun x H1 => ∃ l xs, x = .ref l ∧ (SqL X.K H1 l xs ∨ SqT X.K H1 l xs) ∧ Q (.int xs.length) H1) (hg : Gl X "len" := by rfl)
    (he : starEach [e] X.env = (false, eval e X.env) :: starEach [] X.env := by rfl) (hpl : (backTo pos (starEach [] X.env)).any (·.1) = false := by rfl) : WE X (.Call (.Name "len" p) [e] [] pos) σ H Q :=
  e_callB call_len_seq hm PySem.boot_len (a_cons (WE.mono k fun x H1 ⟨l, xs, e1, hS, q⟩ => a_nil ⟨l, xs, by rw [e1], hS, q⟩) he) hg (by decide) (by decide) he hpl
theorem e_lenS (hm : X.mg "len" = none) (k : WE X e σ H fun x H1 => ∃ z, x = .str z ∧ z.length ≤ sizeLine ∧ Q (.int z.length) H1) (hg : Gl X "len" := by rfl)
    (he : starEach [e] X.env = (false, eval e X.env) :: starEach [] X.env := by rfl) (hpl : (backTo pos (starEach [] X.env)).any (·.1) = false := by rfl) : WE X (.Call (.Name "len" p) [e] [] pos) σ H Q :=
  e_callB call_len_str hm PySem.boot_len (a_cons (WE.mono k fun x H1 ⟨z, e1, hS, q⟩ => a_nil ⟨z, by rw [e1], hS, q⟩) he) hg (by decide) (by decide) he hpl
/-- isinstance(e, T) -/
theorem e_isi {T : String} (hi : X.mg "isinstance" = none) (hT : X.mg x = none) (bT : bootBuiltins x = some (.type T)) (k : WE X e σ H fun v H1 => ∃ t b, TyX X.K H1 v (.type t) ∧ kitB t T = some b ∧ Q (.bl b) H1)
    (hg : Gl X "isinstance" := by rfl) (hgT : Gl X x := by rfl) (hn : x ≠ "__name__" := by decide) (hd : (x == ("__debug__" : Str)) = false := by decide)
    (he : starEach [e, .Name x p2] X.env = (false, eval e X.env) :: starEach [.Name x p2] X.env := by rfl) (he2 : starEach [.Name x p2] X.env = (false, eval (.Name x p2) X.env) :: starEach [] X.env := by rfl)
    (hpl : (backTo pos (starEach [.Name x p2] X.env)).any (·.1) = false := by rfl) :
    WE X (.Call (.Name "isinstance" p) [e, .Name x p2] [] pos) σ H Q :=
  e_callB call_isi hi PyProof.Rows.boot_isinstance (a_cons (WE.mono k fun v H1 ⟨t, b, ht, hk, q⟩ => a_cons (e_bltn (v := .ty T) hT bT rfl (a_nil ⟨v, .ty T, .type t, .type T, b, rfl, .ty T, ht, kit_ty hk, q⟩) hgT hn hd) he2) he) hg (by decide) (by decide) he hpl
/-- lo <= e <= hi -/
theorem t_btw (k : WE X a σ H fun x H1 => WE X b σ H1 fun y H2 => ∃ i j, x = .int i ∧ y = .int j ∧ (i ≤ j → WE X c σ H2 fun z H3 => ∃ m, z = .int m ∧ R (decide (j ≤ m)) H3) ∧ (¬ i ≤ j → R false H2))
    (hm : lastMarks [.LtE, .LtE] [b, c] = false := by with_unfolding_all rfl) : WT X (.Compare a [.LtE, .LtE] [b, c] pos) σ H R :=
  t_chain op_le op_le (WE.mono k fun x H1 k1 => WE.mono k1 fun y H2 ⟨i, j, e1, e2, h1, h2⟩ => ⟨i, j, e1, e2, decide (i ≤ j), rfl, by
    by_cases hij : i ≤ j
    · rw [decide_eq_true hij, if_pos rfl]
      exact WE.mono (h1 hij) fun z H3 ⟨m, e3, r⟩ => ⟨j, m, e2, e3, _, rfl, r⟩
    · rw [decide_eq_false hij, if_neg Bool.false_ne_true]
      exact ⟨false, rfl, h2 hij⟩⟩) hm
/-- e is None -/
theorem t_isN (k : WE X a σ H fun x H1 => R (decide (x = .non)) H1) {j} : WT X (.Compare a [.Is] [.Constant .none j p] pos) σ H R :=
  t_cmp op_isN (WE.mono k fun x H1 r => e_non ⟨rfl, _, rfl, r⟩) (by first | exact nomark _ | rfl)
/-- comparisons of scalars -/
theorem t_eq (k : WE X a σ H fun x H1 => WE X b σ H1 fun y H2 => scal x y = true ∧ R (decide (x = y)) H2) (hm : behindInMarks .Eq b = false := by first | exact nomark _ | with_unfolding_all rfl) : WT X (.Compare a [.Eq] [b] pos) σ H R :=
  t_cmp op_eq (WE.mono k fun x H1 k1 => WE.mono k1 fun y H2 ⟨h, r⟩ => ⟨h, _, rfl, r⟩) hm
theorem t_ne (k : WE X a σ H fun x H1 => WE X b σ H1 fun y H2 => scal x y = true ∧ R (!decide (x = y)) H2) (hm : behindInMarks .NotEq b = false := by first | exact nomark _ | with_unfolding_all rfl) : WT X (.Compare a [.NotEq] [b] pos) σ H R :=
  t_cmp op_ne (WE.mono k fun x H1 k1 => WE.mono k1 fun y H2 ⟨h, r⟩ => ⟨h, _, rfl, r⟩) hm
theorem t_lt (k : WE X a σ H fun x H1 => WE X b σ H1 fun y H2 => ∃ i j, x = .int i ∧ y = .int j ∧ R (decide (i < j)) H2) (hm : behindInMarks .Lt b = false := by first | exact nomark _ | with_unfolding_all rfl) : WT X (.Compare a [.Lt] [b] pos) σ H R :=
  t_cmp op_lt (WE.mono k fun x H1 k1 => WE.mono k1 fun y H2 ⟨i, j, e1, e2, r⟩ => ⟨i, j, e1, e2, _, rfl, r⟩) hm
theorem t_gt (k : WE X a σ H fun x H1 => WE X b σ H1 fun y H2 => ∃ i j, x = .int i ∧ y = .int j ∧ R (decide (j < i)) H2) (hm : behindInMarks .Gt b = false := by first | exact nomark _ | with_unfolding_all rfl) : WT X (.Compare a [.Gt] [b] pos) σ H R :=
  t_cmp op_gt (WE.mono k fun x H1 k1 => WE.mono k1 fun y H2 ⟨i, j, e1, e2, r⟩ => ⟨i, j, e1, e2, _, rfl, r⟩) hm
theorem t_ge (k : WE X a σ H fun x H1 => WE X b σ H1 fun y H2 => ∃ i j, x = .int i ∧ y = .int j ∧ R (decide (j ≤ i)) H2) (hm : behindInMarks .GtE b = false := by first | exact nomark _ | with_unfolding_all rfl) : WT X (.Compare a [.GtE] [b] pos) σ H R :=
  t_cmp op_ge (WE.mono k fun x H1 k1 => WE.mono k1 fun y H2 ⟨i, j, e1, e2, r⟩ => ⟨i, j, e1, e2, _, rfl, r⟩) hm
/-- l != [] of a list that is data -/
theorem t_neD (hu : X.A.units + 64 < cLine) (k : WE X a σ H fun x H1 => WE X b σ H1 fun y H2 => ∃ d e, Dp X.K H2 x d ∧ Dp X.K H2 y e ∧ SeqAt.shaped d = true ∧ SeqAt.shaped e = true ∧ R (!PyData.eqv d e) H2) (hm : behindInMarks .NotEq b = false := by first | exact nomark _ | with_unfolding_all rfl) :
    WT X (.Compare a [.NotEq] [b] pos) σ H R := t_cmp (op_neD hu) (WE.mono k fun x H1 k1 => WE.mono k1 fun y H2 ⟨d, e, h1, h2, h3, h4, r⟩ => ⟨d, e, h1, h2, h3, h4, _, rfl, r⟩) hm
/-- o[i] = e, a list -/
theorem s_setL (k : WE X e σ H fun v H1 => WE X a σ H1 fun o H2 => WE X b σ H2 fun i H3 => ∃ l xs m j, o = .ref l ∧ i = .int m ∧ H3 l = some (.lst xs) ∧ ixN xs.length m = some j ∧ D.nx σ (upd H3 l (.lst (xs.set j v))))
    (ha : ∀ v, assign (.Subscript a b p) X.env v = (do
      let ov ← holding [v] (eval a X.env)
      let iv ← holding [v, ov] (eval b X.env)
      standAt p
      holding [v, ov, iv] (setItem ov iv v)
      release [v, ov, iv] []) := by intro _; rfl)
    (hs : swapsWithSole [.Subscript a b p] e pos.line X.env = pure false := by rfl) (hw : swappedStores [.Subscript a b p] e X.env = pure none := by rfl)
    (h1 : (assignEach [.Subscript a b p] X.env).map (·.2) = [assign (.Subscript a b p) X.env] := by rfl) : WS X (.Assign [.Subscript a b p] e pos) D σ H :=
  s_asg (pg_sub pE pE set_list ha) (WE.mono k fun v H1 k1 => WE.mono k1 fun o H2 k2 => WE.mono k2 fun i H3 ⟨l, xs, m, j, e1, e2, e3, e4, q⟩ => ⟨l, xs, m, j, e1, e2, e3, e4, q⟩) hs hw h1
end
end My

namespace My
open PySem PySem.Spec PyProof.Rows L2
/-! ### data made of tuples alone -/
mutual
inductive DT (H : Hp) : V → PyData → Prop
  | non : DT H .non .none
  | bl (b : Bool) : DT H (.bl b) (.bool b)
  | int (i : Int) : DT H (.int i) (.int i)
  | str (x : Str) : DT H (.str x) (.str x)
  | tup {a : Addr} {xs : List V} {ds : List PyData} : H a = some (.tup xs) → DTs H xs ds → DT H (.ref a) (.tuple ds)
inductive DTs (H : Hp) : List V → List PyData → Prop
  | nil : DTs H [] []
  | cons {v : V} {vs : List V} {d : PyData} {ds : List PyData} : DT H v d → DTs H vs ds → DTs H (v :: vs) (d :: ds)
end
/-- tuples stay -/
def Tup (H H' : Hp) : Prop := ∀ b xs, H b = some (.tup xs) → H' b = some (.tup xs)
theorem Tup.refl (H : Hp) : Tup H H := fun _ _ e => e
theorem Tup.trans {H H1 H2 : Hp} (a : Tup H H1) (b : Tup H1 H2) : Tup H H2 := fun c xs e => b c xs (a c xs e)
theorem Same.tups {H H' : Hp} (e : Same H H') : Tup H H' := fun b xs h => e b _ h
theorem Tup.new {H : Hp} {p : Addr} {o : HO} (h : H p = none) : Tup H (upd H p o) := Same.tups (same_new h)
theorem Tup.set {H : Hp} {p : Addr} {o : HO} {ys : List V} (h : H p = some (.lst ys)) : Tup H (upd H p o) := fun b xs e => by rw [upd_ne (ne_of e h (fun z => by cases z))]; exact e
theorem But.tups {p : Addr} {H H' : Hp} {ys : List V} (e : But p H H') (h : H p = some (.lst ys)) : Tup H H' := fun b xs z => e b _ (ne_of z h (fun z => by cases z)) z
mutual
theorem DT.mono {H H' : Hp} (e : Tup H H') : ∀ {d : PyData} {v : V}, DT H v d → DT H' v d
  | .none, _, h => by cases h; exact .non
  | .bool b, _, h => by cases h; exact .bl b
  | .int i, _, h => by cases h; exact .int i
  | .str x, _, h => by cases h; exact .str x
  | .list _, _, h => by cases h
  | .dict _, _, h => by cases h
  | .tuple ds, _, h => by cases h with | tup h1 h2 => exact .tup (e _ _ h1) (DTs.mono e h2)
theorem DTs.mono {H H' : Hp} (e : Tup H H') : ∀ {ds : List PyData} {vs : List V}, DTs H vs ds → DTs H' vs ds
  | [], _, h => by cases h; exact .nil
  | d :: ds, _, h => by cases h with | cons h1 h2 => exact .cons (DT.mono e h1) (DTs.mono e h2)
end
mutual
theorem DT.dp {K : PySem.W.Frag} {H : Hp} : ∀ {d : PyData} {v : V}, DT H v d → Dp K H v d
  | .none, _, h => by cases h; exact .non
  | .bool b, _, h => by cases h; exact .bl b
  | .int i, _, h => by cases h; exact .int i
  | .str x, _, h => by cases h; exact .str x
  | .list _, _, h => by cases h
  | .dict _, _, h => by cases h
  | .tuple ds, _, h => by cases h with | tup h1 h2 => exact .tup (.inl (.inl h1)) (DTs.dps h2)
theorem DTs.dps {K : PySem.W.Frag} {H : Hp} : ∀ {ds : List PyData} {vs : List V}, DTs H vs ds → DpAll K H vs ds
  | [], _, h => by cases h; exact .nil
  | d :: ds, _, h => by cases h with | cons h1 h2 => exact .cons (DT.dp h1) (DTs.dps h2)
end
theorem DTs.append {H : Hp} : ∀ {vs ws : List V} {ds es : List PyData}, DTs H vs ds → DTs H ws es → DTs H (vs ++ ws) (ds ++ es)
  | _, _, _, _, .nil, h => h
  | _, _, _, _, .cons h1 h2, h => .cons h1 (DTs.append h2 h)
theorem DTs.snoc {H : Hp} {vs : List V} {ds : List PyData} {v : V} {d : PyData} (h : DTs H vs ds) (k : DT H v d) : DTs H (vs ++ [v]) (ds ++ [d]) := h.append (.cons k .nil)
theorem DTs.length {H : Hp} : ∀ {vs : List V} {ds : List PyData}, DTs H vs ds → vs.length = ds.length
  | _, _, .nil => rfl
  | _, _, .cons _ h => congrArg (· + 1) (DTs.length h)
theorem DTs.get {H : Hp} : ∀ {vs : List V} {ds : List PyData} {i : Nat} {v : V}, DTs H vs ds → vs[i]? = some v → ∃ d, ds[i]? = some d ∧ DT H v d
  | _, _, _, _, .nil, e => by simp at e
  | _, _, 0, _, .cons h1 _, e => by simp at e; subst e; exact ⟨_, rfl, h1⟩
  | _, _, i + 1, _, .cons _ h2, e => by simpa using DTs.get h2 (by simpa using e)
theorem DTs.getD {H : Hp} : ∀ {vs : List V} {ds : List PyData} {i : Nat} {d : PyData}, DTs H vs ds → ds[i]? = some d → ∃ v, vs[i]? = some v ∧ DT H v d
  | _, _, _, _, .nil, e => by simp at e
  | _, _, 0, _, .cons h1 _, e => by simp at e; subst e; exact ⟨_, rfl, h1⟩
  | _, _, i + 1, _, .cons _ h2, e => by simpa using DTs.getD h2 (by simpa using e)
theorem DTs.strs {H : Hp} : ∀ zs : List Str, DTs H (zs.map V.str) (zs.map PyData.str)
  | [] => .nil
  | z :: zs => .cons (.str z) (DTs.strs zs)
theorem DTs.take {H : Hp} : ∀ {vs : List V} {ds : List PyData} (n : Nat), DTs H vs ds → DTs H (vs.take n) (ds.take n)
  | _, _, 0, _ => by simp only [List.take_zero]; exact .nil
  | _, _, _ + 1, .nil => .nil
  | _, _, n + 1, .cons h1 h2 => .cons h1 (DTs.take n h2)
/-- looking into a tuple -/
theorem DT.tupE {H : Hp} {v : V} {ds : List PyData} (h : DT H v (.tuple ds)) : ∃ a xs, v = .ref a ∧ H a = some (.tup xs) ∧ DTs H xs ds := by
  cases h with | tup h1 h2 => exact ⟨_, _, rfl, h1, h2⟩
theorem DT.strE {H : Hp} {v : V} {x : Str} (h : DT H v (.str x)) : v = .str x := by cases h; rfl
theorem DT.nonE {H : Hp} {v : V} (h : DT H v .none) : v = .non := by cases h; rfl
theorem DT.blE {H : Hp} {v : V} {b : Bool} (h : DT H v (.bool b)) : v = .bl b := by cases h; rfl
theorem DTs.e0 {H : Hp} {vs : List V} (h : DTs H vs []) : vs = [] := by cases h; rfl
theorem DTs.e1 {H : Hp} {vs : List V} {d : PyData} {ds : List PyData} (h : DTs H vs (d :: ds)) : ∃ v ws, vs = v :: ws ∧ DT H v d ∧ DTs H ws ds := by cases h with | cons h1 h2 => exact ⟨_, _, rfl, h1, h2⟩
theorem DT.tup2 {H : Hp} {v : V} {d e : PyData} (h : DT H v (.tuple [d, e])) : ∃ a x y, v = .ref a ∧ H a = some (.tup [x, y]) ∧ DT H x d ∧ DT H y e := by
  obtain ⟨a, xs, rfl, h1, h2⟩ := h.tupE
  obtain ⟨x, r, rfl, hx, h2⟩ := h2.e1
  obtain ⟨y, r, rfl, hy, h2⟩ := h2.e1
  cases h2.e0
  exact ⟨a, x, y, rfl, h1, hx, hy⟩
theorem DT.tup3 {H : Hp} {v : V} {d e f : PyData} (h : DT H v (.tuple [d, e, f])) : ∃ a x y z, v = .ref a ∧ H a = some (.tup [x, y, z]) ∧ DT H x d ∧ DT H y e ∧ DT H z f := by
  obtain ⟨a, xs, rfl, h1, h2⟩ := h.tupE
  obtain ⟨x, r, rfl, hx, h2⟩ := h2.e1
  obtain ⟨y, r, rfl, hy, h2⟩ := h2.e1
  obtain ⟨z, r, rfl, hz, h2⟩ := h2.e1
  cases h2.e0
  exact ⟨a, x, y, z, rfl, h1, hx, hy, hz⟩
theorem DT.tup4 {H : Hp} {v : V} {d e f g : PyData} (h : DT H v (.tuple [d, e, f, g])) : ∃ a x y z w, v = .ref a ∧ H a = some (.tup [x, y, z, w]) ∧ DT H x d ∧ DT H y e ∧ DT H z f ∧ DT H w g := by
  obtain ⟨a, xs, rfl, h1, h2⟩ := h.tupE
  obtain ⟨x, r, rfl, hx, h2⟩ := h2.e1
  obtain ⟨y, r, rfl, hy, h2⟩ := h2.e1
  obtain ⟨z, r, rfl, hz, h2⟩ := h2.e1
  obtain ⟨w, r, rfl, hw, h2⟩ := h2.e1
  cases h2.e0
  exact ⟨a, x, y, z, w, rfl, h1, hx, hy, hz, hw⟩
/-! ### sizes -/
mutual
def szD : PyData → Nat
  | .str x => 10 * x.length + 5
  | .tuple ds => szDs ds + 5
  | .none | .bool _ | .int _ | .list _ | .dict _ => 5
def szDs : List PyData → Nat
  | [] => 0
  | d :: ds => szD d + 2 + szDs ds
end
/-! no ints, lists, dicts; the texts have small signs -/
mutual
def okD : PyData → Bool
  | .str x => x.cps.toList.all fun c => decide (c < 128)
  | .tuple ds => okDs ds
  | .none | .bool _ => true
  | .int _ | .list _ | .dict _ => false
def okDs : List PyData → Bool
  | [] => true
  | d :: ds => okD d && okDs ds
end
mutual
theorem shown_le : ∀ d : PyData, okD d = true → d.shown.length ≤ szD d
  | .none, _ => by decide
  | .bool true, _ => by decide
  | .bool false, _ => by decide
  | .str x, h => by
    show (reprText x).length ≤ 10 * x.length + 5
    have := StrLaws.reprText_len x (fun c hc => Nat.lt_of_lt_of_le (of_decide_eq_true (List.all_eq_true.mp h c hc)) (by decide))
    omega
  | .tuple ds, h => by
    show (tupleText (PyData.shownAll ds)).length ≤ szDs ds + 5
    have h1 := tupleText_len_le (PyData.shownAll ds)
    have h2 := shownAll_le ds h
    omega
  | .int _, h => by cases h
  | .list _, h => by cases h
  | .dict _, h => by cases h
theorem shownAll_le : ∀ ds : List PyData, okDs ds = true → ((PyData.shownAll ds).map (·.length)).sum + 2 * (PyData.shownAll ds).length ≤ szDs ds
  | [], _ => by decide
  | d :: ds, h => by
    have h' : (okD d && okDs ds) = true := h
    simp only [Bool.and_eq_true] at h'
    have h1 := shown_le d h'.1
    have h2 := shownAll_le ds h'.2
    show (((PyData.shown d) :: PyData.shownAll ds).map (·.length)).sum + 2 * ((PyData.shown d) :: PyData.shownAll ds).length ≤ szD d + 2 + szDs ds
    rw [List.map_cons, List.sum_cons, List.length_cons]
    omega
end
mutual
theorem showable_ok : ∀ d : PyData, okD d = true → d.showable = true
  | .none, _ => rfl
  | .bool _, _ => rfl
  | .str _, _ => rfl
  | .tuple ds, h => showables_ok ds h
  | .int _, h => by cases h
  | .list _, h => by cases h
  | .dict _, h => by cases h
theorem showables_ok : ∀ ds : List PyData, okDs ds = true → PyData.showableAll ds = true
  | [], _ => rfl
  | d :: ds, h => by
    have h' : (okD d && okDs ds) = true := h
    simp only [Bool.and_eq_true] at h'
    show (PyData.showable d && PyData.showableAll ds) = true
    rw [showable_ok d h'.1, showables_ok ds h'.2]
    rfl
end
theorem okDs_of {ds : List PyData} (h : ∀ d ∈ ds, okD d = true) : okDs ds = true := by
  induction ds with
  | nil => rfl
  | cons d ds ih => show (okD d && okDs ds) = true; rw [h d List.mem_cons_self, ih fun x hx => h x (List.mem_cons_of_mem _ hx)]; rfl
theorem szDs_of {ds : List PyData} {n : Nat} (h : ∀ d ∈ ds, szD d ≤ n) : szDs ds ≤ ds.length * (n + 2) := by
  induction ds with
  | nil => exact Nat.zero_le _
  | cons d ds ih =>
    have h1 := h d List.mem_cons_self
    have h2 := ih fun x hx => h x (List.mem_cons_of_mem _ hx)
    show szD d + 2 + szDs ds ≤ (ds.length + 1) * (n + 2)
    rw [Nat.add_mul]
    omega
theorem depth_of {ds : List PyData} {n : Nat} (h : ∀ d ∈ ds, d.depth ≤ n) : PyData.depthAll ds ≤ n := by
  induction ds with
  | nil => exact Nat.zero_le _
  | cons d ds ih =>
    show max (PyData.depth d) (PyData.depthAll ds) ≤ n
    exact Nat.max_le.mpr ⟨h d List.mem_cons_self, ih fun x hx => h x (List.mem_cons_of_mem _ hx)⟩
theorem str_ext {x y : Str} (h : x.cps.toList = y.cps.toList) : x = y := by
  obtain ⟨a⟩ := x
  obtain ⟨b⟩ := y
  have e : a = b := Array.toList_inj.mp h
  rw [e]
theorem str_cat (x y : Str) : (x ++ y).cps.toList = x.cps.toList ++ y.cps.toList := Array.toList_append
theorem str_assoc (x y z : Str) : x ++ y ++ z = x ++ (y ++ z) := str_ext (by rw [str_cat, str_cat, str_cat, str_cat, List.append_assoc])
end My

namespace My
open PySem PySem.Spec PyProof.Rows L2
/-! ### data of any kind at addresses of which none is among S (the things that are still written to) -/
mutual
inductive DG (S : Addr → Prop) (H : Hp) : V → PyData → Prop
  | non : DG S H .non .none
  | bl (b : Bool) : DG S H (.bl b) (.bool b)
  | int (i : Int) : DG S H (.int i) (.int i)
  | str (x : Str) : DG S H (.str x) (.str x)
  | tup {a : Addr} {xs : List V} {ds : List PyData} (h : H a = some (.tup xs)) (hs : DGs S H xs ds) : DG S H (.ref a) (.tuple ds)
  | lst {a : Addr} {xs : List V} {ds : List PyData} (h : H a = some (.lst xs)) (n : ¬ S a) (hs : DGs S H xs ds) : DG S H (.ref a) (.list ds)
  | dct {a : Addr} {kvs : List (Key × V)} {ds : List PyData} (h : H a = some (.dK kvs)) (n : ¬ S a) (hs : DGs S H (kvs.map (·.2)) ds) : DG S H (.ref a) (.dict ((kvs.map fun p => kD p.1).zip ds))
inductive DGs (S : Addr → Prop) (H : Hp) : List V → List PyData → Prop
  | nil : DGs S H [] []
  | cons {v : V} {vs : List V} {d : PyData} {ds : List PyData} (h : DG S H v d) (hs : DGs S H vs ds) : DGs S H (v :: vs) (d :: ds)
end
/-- all but what is among S is as it was -/
def Not (S : Addr → Prop) (H H' : Hp) : Prop := ∀ a o, ¬ S a → H a = some o → H' a = some o
mutual
theorem DG.mono {S T : Addr → Prop} {H H' : Hp} (ht : Tup H H') (k : ∀ a o, ¬ S a → H a = some o → ¬ T a ∧ H' a = some o) : ∀ {v : V} {d : PyData}, DG S H v d → DG T H' v d
  | _, _, .non => .non
  | _, _, .bl b => .bl b
  | _, _, .int i => .int i
  | _, _, .str x => .str x
  | _, _, .tup h hs => .tup (ht _ _ h) (DGs.mono ht k hs)
  | _, _, .lst h n hs => .lst (k _ _ n h).2 (k _ _ n h).1 (DGs.mono ht k hs)
  | _, _, .dct h n hs => .dct (k _ _ n h).2 (k _ _ n h).1 (DGs.mono ht k hs)
theorem DGs.mono {S T : Addr → Prop} {H H' : Hp} (ht : Tup H H') (k : ∀ a o, ¬ S a → H a = some o → ¬ T a ∧ H' a = some o) : ∀ {vs : List V} {ds : List PyData}, DGs S H vs ds → DGs T H' vs ds
  | _, _, .nil => .nil
  | _, _, .cons h hs => .cons (DG.mono ht k h) (DGs.mono ht k hs)
end
theorem DGs.length {S : Addr → Prop} {H : Hp} : ∀ {vs : List V} {ds : List PyData}, DGs S H vs ds → vs.length = ds.length
  | _, _, .nil => rfl
  | _, _, .cons _ hs => congrArg (· + 1) hs.length
theorem DGs.append {S : Addr → Prop} {H : Hp} : ∀ {vs ws : List V} {ds es : List PyData}, DGs S H vs ds → DGs S H ws es → DGs S H (vs ++ ws) (ds ++ es)
  | _, _, _, _, .nil, k => k
  | _, _, _, _, .cons h hs, k => .cons h (hs.append k)
theorem DGs.get {S : Addr → Prop} {H : Hp} : ∀ {vs : List V} {ds : List PyData} {i : Nat} {v : V}, DGs S H vs ds → vs[i]? = some v → ∃ d, ds[i]? = some d ∧ DG S H v d
  | _, _, 0, _, .cons h _, e => ⟨_, rfl, by cases e; exact h⟩
  | _, _, i + 1, _, .cons _ hs, e => by
    obtain ⟨d, e2, h⟩ := hs.get (i := i) (by simpa using e)
    exact ⟨d, by simpa using e2, h⟩
  | _, _, 0, _, .nil, e => by cases e
  | _, _, i + 1, _, .nil, e => by cases e
theorem DGs.strs {S : Addr → Prop} {H : Hp} : ∀ zs : List Str, DGs S H (zs.map V.str) (zs.map PyData.str)
  | [] => .nil
  | z :: zs => .cons (.str z) (DGs.strs zs)
mutual
theorem DG.of {S : Addr → Prop} {H : Hp} : ∀ {v : V} {d : PyData}, DT H v d → DG S H v d
  | _, _, .non => .non
  | _, _, .bl b => .bl b
  | _, _, .int i => .int i
  | _, _, .str x => .str x
  | _, _, .tup h hs => .tup h (DGs.of hs)
theorem DGs.of {S : Addr → Prop} {H : Hp} : ∀ {vs : List V} {ds : List PyData}, DTs H vs ds → DGs S H vs ds
  | _, _, .nil => .nil
  | _, _, .cons h hs => .cons (DG.of h) (DGs.of hs)
end
theorem DG.same {S : Addr → Prop} {H H' : Hp} (e : Same H H') {v : V} {d : PyData} (h : DG S H v d) : DG S H' v d := h.mono (My.Same.tups e) fun a o n q => ⟨n, e a o q⟩
theorem DGs.same {S : Addr → Prop} {H H' : Hp} (e : Same H H') {vs : List V} {ds : List PyData} (h : DGs S H vs ds) : DGs S H' vs ds := h.mono (My.Same.tups e) fun a o n q => ⟨n, e a o q⟩
/-- new addresses are none of the data's -/
theorem DG.new {S : Addr → Prop} {H : Hp} {p : Addr} (hp : H p = none) {v : V} {d : PyData} (h : DG S H v d) : DG (fun a => S a ∨ a = p) H v d :=
  h.mono (fun _ _ e => e) fun a o n e => ⟨fun z => z.elim n (fun z => by rw [z, hp] at e; cases e), e⟩
/-- the built-in type of data -/
def tyD : PyData → String
  | .none => "NoneType"
  | .bool _ => "bool"
  | .int _ => "int"
  | .str _ => "str"
  | .tuple _ => "tuple"
  | .list _ => "list"
  | .dict _ => "dict"
theorem DG.ty {K : PySem.W.Frag} {S : Addr → Prop} {H : Hp} : ∀ {v : V} {d : PyData}, DG S H v d → TyX K H v (.type (tyD d))
  | _, _, .non => .base .non
  | _, _, .bl b => .base (.bl b)
  | _, _, .int i => .base (.int i)
  | _, _, .str x => .base (.str x)
  | _, _, .tup h _ => .base (.tup h)
  | _, _, .lst h _ _ => .base (.lst h)
  | _, _, .dct h _ _ => .base (.dK h)
def isStr : PyData → Bool | .str _ => true | _ => false
def isTup : PyData → Bool | .tuple _ => true | _ => false
def isBoo : PyData → Bool | .bool _ => true | _ => false
theorem kit_str : ∀ d : PyData, kitB (tyD d) "str" = some (isStr d)
  | .none => (by decide +kernel : kitB "NoneType" "str" = some false)
  | .bool _ => (by decide +kernel : kitB "bool" "str" = some false)
  | .int _ => (by decide +kernel : kitB "int" "str" = some false)
  | .str _ => (by decide +kernel : kitB "str" "str" = some true)
  | .tuple _ => (by decide +kernel : kitB "tuple" "str" = some false)
  | .list _ => (by decide +kernel : kitB "list" "str" = some false)
  | .dict _ => (by decide +kernel : kitB "dict" "str" = some false)
theorem kit_tup : ∀ d : PyData, kitB (tyD d) "tuple" = some (isTup d)
  | .none => (by decide +kernel : kitB "NoneType" "tuple" = some false)
  | .bool _ => (by decide +kernel : kitB "bool" "tuple" = some false)
  | .int _ => (by decide +kernel : kitB "int" "tuple" = some false)
  | .str _ => (by decide +kernel : kitB "str" "tuple" = some false)
  | .tuple _ => (by decide +kernel : kitB "tuple" "tuple" = some true)
  | .list _ => (by decide +kernel : kitB "list" "tuple" = some false)
  | .dict _ => (by decide +kernel : kitB "dict" "tuple" = some false)
theorem kit_boo : ∀ d : PyData, kitB (tyD d) "bool" = some (isBoo d)
  | .none => (by decide +kernel : kitB "NoneType" "bool" = some false)
  | .bool _ => (by decide +kernel : kitB "bool" "bool" = some true)
  | .int _ => (by decide +kernel : kitB "int" "bool" = some false)
  | .str _ => (by decide +kernel : kitB "str" "bool" = some false)
  | .tuple _ => (by decide +kernel : kitB "tuple" "bool" = some false)
  | .list _ => (by decide +kernel : kitB "list" "bool" = some false)
  | .dict _ => (by decide +kernel : kitB "dict" "bool" = some false)
/-! ### repr -/
/-- no dict, or a dict of scalars -/
def Flat : PyData → Bool
  | .none | .bool _ | .int _ | .str _ => true
  | .list _ | .tuple _ | .dict _ => false
def Rp (d : PyData) : Prop := d.hasDict = false ∨ ∃ kvs, d = .dict kvs ∧ (kvs.map (·.2)).all Flat = true
mutual
theorem DG.dp {K : PySem.W.Frag} {S : Addr → Prop} {H : Hp} : ∀ {v : V} {d : PyData}, DG S H v d → d.hasDict = false → Dp K H v d
  | _, _, .non, _ => .non
  | _, _, .bl b, _ => .bl b
  | _, _, .int i, _ => .int i
  | _, _, .str x, _ => .str x
  | _, _, .tup h hs, n => .tup (.inl (.inl h)) (DGs.dp hs n)
  | _, _, .lst h _ hs, n => .lst (.inl (.inl h)) (DGs.dp hs n)
  | _, _, .dct h _ hs, n => by cases n
theorem DGs.dp {K : PySem.W.Frag} {S : Addr → Prop} {H : Hp} : ∀ {vs : List V} {ds : List PyData}, DGs S H vs ds → PyData.hasDictAll ds = false → DpAll K H vs ds
  | _, _, .nil, _ => .nil
  | _, _, .cons h hs, n => by
    have n' : (_ || _) = false := n
    rw [Bool.or_eq_false_iff] at n'
    exact .cons (DG.dp h n'.1) (DGs.dp hs n'.2)
end
theorem key_reads {P : Program} {w : World} {h : Heap} (k : Key) (u : Value) (e : (mixKind P w).is k u = true) : Reads h u (kD k) [] := by
  rcases keyIs_shape e with ⟨i, t, rfl, rfl⟩ | ⟨x, t, rfl, rfl⟩
  · exact Reads.int i t
  · exact Reads.str x t
theorem flat_reads {S : Addr → Prop} {H : Hp} {h : Heap} : ∀ {v : V} {d : PyData} {u : Value}, DG S H v d → Flat d = true → RelV v u → Reads h u d []
  | _, _, _, .non, _, r => by cases r; exact Reads.none
  | _, _, _, .bl b, _, r => by cases r; exact Reads.bool b
  | _, _, _, .int i, _, r => by obtain ⟨t, rfl⟩ := r; exact Reads.int i t
  | _, _, _, .str x, _, r => by obtain ⟨t, rfl⟩ := r; exact Reads.str x t
  | _, _, _, .tup _ _, f, _ => by cases f
  | _, _, _, .lst _ _ _, f, _ => by cases f
  | _, _, _, .dct _ _ _, f, _ => by cases f
theorem pairs_read {S : Addr → Prop} {H : Hp} {h : Heap} : ∀ {kvs : List (Key × V)} {ds : List PyData} {us : List (Key × Value)}, KV kvs us → DGs S H (kvs.map (·.2)) ds → ds.all Flat = true → PyProof.V.PairsRead h kD us ((kvs.map fun p => kD p.1).zip ds) []
  | [], _, _, .nil, .nil, _ => .nil
  | (k, v) :: kvs, d :: ds, (k', u) :: us, .cons r t, .cons h1 hs, f => by
    obtain ⟨e, rv⟩ := r
    have e' : k = k' := e
    subst e'
    have f' : (Flat d && ds.all Flat) = true := f
    rw [Bool.and_eq_true] at f'
    exact PyProof.V.PairsRead.cons (as := []) (bs := []) (flat_reads h1 f'.1 rv) (pairs_read t hs f'.2)
section
variable {X : Cx} {pins : List (Addr × Obj)} {σ : L2.St} {H : Hp} {s : Shared} {S : Addr → Prop}
theorem DG.reads (I : Inv X pins σ H s) {v : V} {d : PyData} {u : Value} (h : DG S H v d) (rp : Rp d) (r : RelV v u) : ∃ as, Reads s.heap u d as ∧ (d.hasDict = true → sysModules ∉ as) := by
  rcases rp with n | ⟨kvs, rfl, f⟩
  · obtain ⟨as, q⟩ := Dp.reads I d v u (h.dp n) r
    exact ⟨as, q, fun z => by rw [n] at z; cases z⟩
  · cases h with
    | @dct a kvs ds h n hs =>
      cases r
      obtain ⟨_, hsys, us, hkv, hd⟩ := (show ObjOk X.prog X.w H s.heap a (.dK kvs) from I.hok a _ h)
      have hl : (kvs.map fun p => kD p.1).length = ds.length := by rw [List.length_map, ← hs.length, List.length_map]
      have ef : ((kvs.map fun p => kD p.1).zip ds).map (·.2) = ds := List.map_snd_zip (by omega)
      rw [ef] at f
      refine ⟨_, PyProof.V.reads_dictOf (fun k u e => key_reads k u e) hd (pairs_read hkv hs f), fun _ z => ?_⟩
      have z' := List.mem_singleton.mp z
      rw [z'] at hsys
      simp at hsys
theorem call_reprG (hG : X.A.guards = some []) (hu : X.A.units + 64 < cLine) : CallR X (.builtin "repr") (fun xs H Q => ∃ S x d, xs = [x] ∧ DG S H x d ∧ Rp d ∧ d.showable = true ∧ d.depth ≤ 60 ∧ d.shown.length ≤ sizeLine ∧ Q (.str d.shown) H) := by
  intro pins s σ H xs us Q I r h
  obtain ⟨S, x, d, rfl, hd, rp, hs, hp, hz, q⟩ := h
  obtain ⟨u, rfl, rx⟩ := vals1 r
  obtain ⟨as, rd, sy⟩ := hd.reads I rp rx
  have far : ∀ a, u = .ref a → wpAny (model X.prog X.w) X.A (call (.builtin "repr") [u]) (EP X pins σ Q) X.xe s := fun a e => by
    subst e
    exact repr_of_reads' rd hs sy hG (by omega) (fun _ _ e => e) (fun h' t tk hk => ⟨.str _, H, I.kept hk, ⟨_, rfl⟩, q⟩) hz
  cases hd with
  | non => cases rx; exact PySem.P.repr_of_none ⟨.str _, H, I.tok _, ⟨_, rfl⟩, q⟩
  | bl b => cases rx; exact PySem.P.repr_of_bool ⟨.str _, H, I.tok _, ⟨_, rfl⟩, q⟩
  | int i =>
    obtain ⟨t, rfl⟩ := rx
    exact PySem.P.repr_of_int (by simpa [PyData.showable] using hs) ⟨.str _, H, I.tok _, ⟨_, rfl⟩, q⟩
  | str z =>
    obtain ⟨t, rfl⟩ := rx
    exact PySem.P.repr_of_str ⟨.str _, H, I.tok _, ⟨_, rfl⟩, q⟩ hz
  | tup _ _ => cases rx; exact far _ rfl
  | lst _ _ _ => cases rx; exact far _ rfl
  | dct _ _ _ => cases rx; exact far _ rfl
end
section
variable {X : Cx} {e : Expr} {σ : L2.St} {H : Hp} {Q : VK} {pos p : Pos}
theorem e_reprG (hm : X.mg "repr" = none) (hG : X.A.guards = some []) (hu : X.A.units + 64 < cLine) (h : WE X e σ H fun x H1 => ∃ S d, DG S H1 x d ∧ Rp d ∧ d.showable = true ∧ d.depth ≤ 60 ∧ d.shown.length ≤ sizeLine ∧ Q (.str d.shown) H1) (hg : Gl X "repr" := by rfl)
    (he : starEach [e] X.env = (false, eval e X.env) :: starEach [] X.env := by rfl) (hpl : (backTo pos (starEach [] X.env)).any (·.1) = false := by rfl) : WE X (.Call (.Name "repr" p) [e] [] pos) σ H Q :=
  e_callB (call_reprG hG hu) hm PyProof.Rows.boot_repr (a_cons (WE.mono h fun x H1 ⟨S, d, h1, h2, h3, h4, h5, q⟩ => a_nil ⟨S, x, d, rfl, h1, h2, h3, h4, h5, q⟩) he) hg (by decide) (by decide) he hpl
end
end My

namespace My
open PySem PySem.Spec PyProof.Rows L2
/-! ### displays of constants -/
inductive LitK : List (Option Expr) → List Key → Prop
  | nil : LitK [] []
  | int (i : Int) {j} {p : Pos} {es : List (Option Expr)} {ks : List Key} (r : LitK es ks) : LitK (some (.Constant (.int i) j p) :: es) (.inl i :: ks)
  | str (x : Str) {j} {p : Pos} {es : List (Option Expr)} {ks : List Key} (r : LitK es ks) : LitK (some (.Constant (.str x) j p) :: es) (.inr x :: ks)
mutual
inductive Lit : Expr → PyData → Prop
  | non {j} {p : Pos} : Lit (.Constant .none j p) .none
  | bl (b : Bool) {j} {p : Pos} : Lit (.Constant (.bool b) j p) (.bool b)
  | int (i : Int) {j} {p : Pos} : Lit (.Constant (.int i) j p) (.int i)
  | str (x : Str) {j} {p : Pos} : Lit (.Constant (.str x) j p) (.str x)
  | neg (i : Int) {j} {p q : Pos} : Lit (.UnaryOp .USub (.Constant (.int i) j p) q) (.int (-i))
  | pow (a b : Int) {j j'} {p p' q : Pos} (h : CPow a b) : Lit (.BinOp (.Constant (.int a) j p) .Pow (.Constant (.int b) j' p') q) (.int (a ^ b.toNat))
  | tup {es : List Expr} {k} {p : Pos} {ds : List PyData} (h : Lits es ds) (l : ds.length ≤ sizeLine) : Lit (.Tuple es k p) (.tuple ds)
  | lst {es : List Expr} {p : Pos} {ds : List PyData} (h : Lits es ds) (l : ds.length ≤ sizeLine) : Lit (.List es p) (.list ds)
  | dct0 {p : Pos} : Lit (.Dict [] [] p) (.dict [])
  | dct {keys : List (Option Expr)} {values : List Expr} {p : Pos} {ks : List Key} {ds : List PyData} (h : Lits values ds) (k : LitK keys ks) (n : ks.Nodup) (l : keys.length ≤ 15) (h0 : keys ≠ []) (e : keys.length = values.length) : Lit (.Dict keys values p) (.dict ((ks.map kD).zip ds))
inductive Lits : List Expr → List PyData → Prop
  | nil : Lits [] []
  | cons {e : Expr} {es : List Expr} {d : PyData} {ds : List PyData} (h : Lit e d) (hs : Lits es ds) : Lits (e :: es) (d :: ds)
end
theorem Lit.star {e : Expr} {es : List Expr} {d : PyData} {env : Env} (h : Lit e d) : starEach (e :: es) env = (false, eval e env) :: starEach es env := by
  cases h <;> rfl
theorem Lits.length : ∀ {es : List Expr} {ds : List PyData}, Lits es ds → es.length = ds.length
  | _, _, .nil => rfl
  | _, _, .cons _ hs => congrArg (· + 1) hs.length
theorem LitK.length : ∀ {es : List (Option Expr)} {ks : List Key}, LitK es ks → es.length = ks.length
  | _, _, .nil => rfl
  | _, _, .int _ r => congrArg (· + 1) r.length
  | _, _, .str _ r => congrArg (· + 1) r.length
theorem LitK.all : ∀ {es : List (Option Expr)} {ks : List Key}, LitK es ks → es.all (·.isSome) = true
  | _, _, .nil => rfl
  | _, _, .int _ r => r.all
  | _, _, .str _ r => r.all
def trsOf (X : Cx) : List (Option Expr) → List Expr → List (TE × TE)
  | some k :: ks, v :: vs => (WE X k, WE X v) :: trsOf X ks vs
  | _, _ => []
theorem pps_of {X : Cx} {pos : Pos} : ∀ {keys : List (Option Expr)} {ks : List Key} {values : List Expr}, LitK keys ks → keys.length = values.length → PPs X pos keys values (trsOf X keys values)
  | _, _, [], .nil, _ => pps_nil
  | _, _, v :: vs, .int i r, e => pps_cons pE pE (pps_of r (by simpa using e))
  | _, _, v :: vs, .str i r, e => pps_cons pE pE (pps_of r (by simpa using e))
  | _, _, _ :: _, .nil, e => by cases e
  | _, _, [], .int _ _, e => by cases e
  | _, _, [], .str _ _, e => by cases e
theorem mergeK_new : ∀ (more kvs : List (Key × V)), (more.map (·.1)).Nodup → (∀ p ∈ more, valV kvs p.1 = none) → mergeK kvs more = kvs ++ more
  | [], kvs, _, _ => by show kvs = kvs ++ []; rw [List.append_nil]
  | p :: r, kvs, n, h => by
    have n' := List.nodup_cons.mp n
    have e := putK_new p.2 (h p List.mem_cons_self)
    show mergeK (putK kvs p.1 p.2) r = _
    rw [e, mergeK_new r _ n'.2 fun q hq => ?_]
    · rw [List.append_assoc]; rfl
    · have e2 := valV_snoc p.1 q.1 p.2 kvs (h p List.mem_cons_self)
      have ne : ¬ q.1 = p.1 := fun z => n'.1 (List.mem_map.mpr ⟨q, hq, z⟩)
      rw [e2, if_neg ne]
      exact h q (List.mem_cons_of_mem _ hq)
theorem DG.free {S : Addr → Prop} {H : Hp} {p : Addr} {o : HO} (hp : H p = some (.dK [])) {v : V} {d : PyData} (h : DG (fun a => S a ∨ a = p) H v d) : DG S (upd H p o) v d :=
  h.mono (fun b xs e => by rw [upd_ne (ne_of e hp (fun z => by cases z))]; exact e) fun a o n e => ⟨fun z => n (.inl z), by rw [upd_ne (fun z => n (.inr z))]; exact e⟩
theorem DGs.free {S : Addr → Prop} {H : Hp} {p : Addr} {o : HO} (hp : H p = some (.dK [])) {vs : List V} {ds : List PyData} (h : DGs (fun a => S a ∨ a = p) H vs ds) : DGs S (upd H p o) vs ds :=
  h.mono (fun b xs e => by rw [upd_ne (ne_of e hp (fun z => by cases z))]; exact e) fun a o n e => ⟨fun z => n (.inl z), by rw [upd_ne (fun z => n (.inr z))]; exact e⟩
section
variable {X : Cx}
theorem in_same {S : Addr → Prop} {H H' : Hp} (e : Same H H') (h : ∀ a, S a → H a ≠ none) : ∀ a, S a → H' a ≠ none := fun a s z => by
  cases q : H a with
  | none => exact h a s q
  | some o => rw [e a o q] at z; cases z
mutual
theorem e_lit : ∀ {e : Expr} {d : PyData}, Lit e d → ∀ {S : Addr → Prop} {σ : L2.St} {H : Hp} {Q : VK}, (∀ a, S a → H a ≠ none) → (∀ v H', Same H H' → DG S H' v d → Q v H') → WE X e σ H Q
  | _, _, .non, _, _, _, _, _, q => e_non (q _ _ (Same.refl _) .non)
  | _, _, .bl b, _, _, _, _, _, q => e_bl (q _ _ (Same.refl _) (.bl b))
  | _, _, .int i, _, _, _, _, _, q => e_int (q _ _ (Same.refl _) (.int i))
  | _, _, .str x, _, _, _, _, _, q => e_str (q _ _ (Same.refl _) (.str x))
  | _, _, .neg i, _, _, _, _, _, q => e_un un_neg (e_int ⟨i, rfl, q _ _ (Same.refl _) (.int (-i))⟩)
  | _, _, .pow a b h, _, _, _, _, _, q => e_op op_pow (e_int (e_int ⟨a, b, rfl, rfl, h, q _ _ (Same.refl _) (.int _)⟩))
  | _, _, .tup h l, _, _, _, _, hS, q => e_tup (a_lit h hS fun vs H' s hs => ⟨by rw [hs.length]; exact l, fun p hp => q _ _ (s.trans (same_new hp)) (.tup upd_same (hs.same (same_new hp)))⟩)
  | _, _, .lst h l, S, _, _, _, hS, q => e_lst (a_lit h hS fun vs H' s hs => ⟨by rw [hs.length]; exact l, fun p hp => q _ _ (s.trans (same_new hp)) (.lst upd_same (fun z => in_same s hS p z hp) (hs.same (same_new hp)))⟩)
  | _, _, .dct0, S, _, H, _, hS, q => toE pe_dnewK fun p hp => q _ _ (same_new hp) (DG.dct (kvs := []) (ds := []) upd_same (fun z => hS p z hp) .nil)
  | _, _, .dct (ks := ks) (ds := ds) h k n l h0 e, S, _, H, _, hS, q => toE (pe_disp (pps_of k e) k.all e h0 l) fun p hp => p_lit h k e (S := fun a => S a ∨ a = p) (fun a z => z.elim (fun z w => by
      by_cases ea : a = p
      · exact hS a z (ea ▸ hp)
      · rw [upd_ne ea] at w; exact hS a z w) (fun z w => by rw [z, upd_same] at w; cases w)) fun vs H2 s hs hl => ⟨s _ _ upd_same, ks.zip vs, rfl, by rw [List.length_zip, ← hl, Nat.min_self, ← k.length]; exact l, by
        have ek : ((ks.zip vs).map (·.1)) = ks := List.map_fst_zip (by omega)
        have ev : ((ks.zip vs).map (·.2)) = vs := List.map_snd_zip (by omega)
        rw [mergeK_new _ [] (by rw [ek]; exact n) (fun _ _ => rfl), List.nil_append]
        refine q _ _ (same_mut ((same_new hp).trans s) hp) ?_
        have ed : ((ks.map kD).zip ds) = (((ks.zip vs).map fun p => kD p.1).zip ds) := by
          have : (ks.zip vs).map (fun p => kD p.1) = ((ks.zip vs).map (·.1)).map kD := by rw [List.map_map]; rfl
          rw [this, ek]
        rw [ed]
        refine DG.dct (kvs := ks.zip vs) upd_same (fun z => hS p z hp) ?_
        rw [ev]
        exact hs.free (s _ _ upd_same)⟩
theorem a_lit : ∀ {es : List Expr} {ds : List PyData}, Lits es ds → ∀ {S : Addr → Prop} {σ : L2.St} {H : Hp} {U : List V → Hp → Prop}, (∀ a, S a → H a ≠ none) → (∀ vs H', Same H H' → DGs S H' vs ds → U vs H') → WA X es σ H U
  | _, _, .nil, _, _, _, _, _, q => a_nil (q _ _ (Same.refl _) .nil)
  | _, _, .cons h hs, _, _, _, _, hS, q => a_cons (e_lit h hS fun v H1 s1 h1 => a_lit hs (in_same s1 hS) fun vs H2 s2 h2 => q _ _ (s1.trans s2) (.cons (h1.same s2) h2)) h.star
theorem p_lit : ∀ {values : List Expr} {ds : List PyData}, Lits values ds → ∀ {keys : List (Option Expr)} {ks : List Key}, LitK keys ks → keys.length = values.length → ∀ {S : Addr → Prop} {σ : L2.St} {H : Hp} {Q : List (V × V) → Hp → Prop}, (∀ a, S a → H a ≠ none) →
    (∀ vs H', Same H H' → DGs S H' vs ds → ks.length = vs.length → Q ((ks.zip vs).map fun kv => (kV kv.1, kv.2)) H') → tPairs (trsOf X keys values) σ H Q
  | _, _, .nil, _, _, .nil, _, _, _, _, _, _, q => q [] _ (Same.refl _) .nil rfl
  | _, _, .cons h hs, _, _, .int i r, e, _, _, _, _, hS, q => e_int (e_lit h hS fun v H1 s1 h1 => p_lit hs r (by simpa using e) (in_same s1 hS) fun vs H2 s2 h2 l => q (v :: vs) _ (s1.trans s2) (.cons (h1.same s2) h2) (by simpa using l))
  | _, _, .cons h hs, _, _, .str i r, e, _, _, _, _, hS, q => e_str (e_lit h hS fun v H1 s1 h1 => p_lit hs r (by simpa using e) (in_same s1 hS) fun vs H2 s2 h2 l => q (v :: vs) _ (s1.trans s2) (.cons (h1.same s2) h2) (by simpa using l))
  | _, _, .nil, _, _, .int _ _, e, _, _, _, _, _, _ => by cases e
  | _, _, .nil, _, _, .str _ _, e, _, _, _, _, _, _ => by cases e
  | _, _, .cons _ _, _, _, .nil, e, _, _, _, _, _, _ => by cases e
end
end
end My

namespace My
open PySem PySem.Spec PyProof.Rows L2
/-! ### any data == a text -/
section
open PySem.SeqAt
theorem dict_eq_declines_str (l : Addr) (es : Array DictEntry) (n : Nat) (dd : Option Addr) (sl : Array (Option Value)) (b : Str) (u : Tok) :
    Meets (Builtin.«dict.__eq__» ⟨[.ref l, .str b u], []⟩) (fun _ R s => s.heap.get? l = some { cls := .type "dict", dict := dd, data := .dict es n, slots := sl } ∧ R (.ok (.ret .notImplemented)) s) :=
  .of_wp fun prog w A R s h => by obtain ⟨hp, g, d, tk, os⟩ := s; obtain ⟨hl, h⟩ := h; have f1 := F.sub_str_dict; wp_walk using wpAny_loadPart' hl; exact ⟨_, rfl, h⟩
theorem dict_ne_declines_str (l : Addr) (es : Array DictEntry) (n : Nat) (dd : Option Addr) (sl : Array (Option Value)) (b : Str) (u : Tok) :
    Meets (Builtin.«dict.__ne__» ⟨[.ref l, .str b u], []⟩) (fun _ R s => s.heap.get? l = some { cls := .type "dict", dict := dd, data := .dict es n, slots := sl } ∧ R (.ok (.ret .notImplemented)) s) :=
  .of_wp fun prog w A R s h => by obtain ⟨hp, g, d, tk, os⟩ := s; obtain ⟨hl, h⟩ := h; have f1 := F.sub_str_dict; wp_walk using wpAny_loadPart' hl; exact ⟨_, rfl, h⟩
theorem str_eq_declines_dict (b : Str) (u : Tok) (l : Addr) (c : Value) (es : Array DictEntry) (n : Nat) (dd : Option Addr) (sl : Array (Option Value)) :
    Meets (Builtin.«str.__eq__» ⟨[.str b u, .ref l], []⟩) (fun _ R s => s.heap.get? l = some { cls := c, dict := dd, data := .dict es n, slots := sl } ∧ R (.ok (.ret .notImplemented)) s) :=
  .of_wp fun prog w A R s h => by obtain ⟨hp, g, d, tk, os⟩ := s; obtain ⟨hl, h⟩ := h; wp_walk using wpAny_loadPart' hl, wpAny_load hl; exact ⟨_, rfl, h⟩
theorem str_ne_declines_dict (b : Str) (u : Tok) (l : Addr) (c : Value) (es : Array DictEntry) (n : Nat) (dd : Option Addr) (sl : Array (Option Value)) :
    Meets (Builtin.«str.__ne__» ⟨[.str b u, .ref l], []⟩) (fun _ R s => s.heap.get? l = some { cls := c, dict := dd, data := .dict es n, slots := sl } ∧ R (.ok (.ret .notImplemented)) s) :=
  .of_wp fun prog w A R s h => by obtain ⟨hp, g, d, tk, os⟩ := s; obtain ⟨hl, h⟩ := h; wp_walk using wpAny_loadPart' hl, wpAny_load hl; exact ⟨_, rfl, h⟩
variable {A : Around} {s : Shared}
theorem RcAt_dict_str {l : Addr} {ob : Obj} {es : Array DictEntry} {n : Nat} (b : Str) (u : Tok) (ho : s.heap.get? l = some ob) (hc : ob.cls = .type "dict") (hd : ob.data = .dict es n) (hu : A.units < cLine) : RcAt A s (.ref l) (.str b u) false := fun prog w E Q h => by
  obtain ⟨cls, dd, data, sl⟩ := ob
  simp only at hc hd
  subst hc hd
  exact rc_eq_decline_or (k := false) ⟨_, ho, rfl⟩ (typeIs_str s b u) (by decide) F.sub_str_dict F.slot_dict_eq F.slot_str_eq_refl
    (fun _ hq => call_meets F.slot_dict_eq ⟨_, ho, rfl⟩ F.entry_dict_eq (F.args_dict_eq_2 _ _) (dict_eq_declines_str l es n dd sl b u) ⟨ho, hq⟩)
    (fun _ hq => call_meets F.slot_str_eq_refl (typeIs_str s b u) F.entry_str_eq (F.args_str_eq_2 _ _) (str_eq_declines_dict b u l (.type "dict") es n dd sl) ⟨ho, hq⟩)
    (fun _ hq => wpAny_of_eq (rfl : isSame (.ref l) (.str b u) = pure false) hq) (.inr hu) h
theorem RcNeAt_dict_str {l : Addr} {ob : Obj} {es : Array DictEntry} {n : Nat} (b : Str) (u : Tok) (ho : s.heap.get? l = some ob) (hc : ob.cls = .type "dict") (hd : ob.data = .dict es n) (hu : A.units < cLine) : RcNeAt A s (.ref l) (.str b u) true := fun prog w E Q h => by
  obtain ⟨cls, dd, data, sl⟩ := ob
  simp only at hc hd
  subst hc hd
  exact rc_ne_decline_or (k := false) ⟨_, ho, rfl⟩ (typeIs_str s b u) (by decide) F.sub_str_dict F.slot_dict_ne F.slot_str_ne_refl
    (fun _ hq => call_meets F.slot_dict_ne ⟨_, ho, rfl⟩ F.entry_dict_ne (F.args_dict_ne_2 _ _) (dict_ne_declines_str l es n dd sl b u) ⟨ho, hq⟩)
    (fun _ hq => call_meets F.slot_str_ne_refl (typeIs_str s b u) F.entry_str_ne (F.args_str_ne_2 _ _) (str_ne_declines_dict b u l (.type "dict") es n dd sl) ⟨ho, hq⟩)
    (fun _ hq => wpAny_of_eq (rfl : isSame (.ref l) (.str b u) = pure false) hq) (.inr hu) h
end
def eqS : PyData → Str → Bool | .str y, z => decide (y = z) | _, _ => false
section
variable {X : Cx}
theorem op_eqS (hu : X.A.units + 64 < cLine) : OpR X (compareOp .Eq) (fun x y H Q => ∃ S d z, DG S H x d ∧ y = .str z ∧ Q (.bl (eqS d z)) H) := by
  intro pins s σ H x y v u Q I rx ry h
  obtain ⟨S, d, z, hd, rfl, q⟩ := h
  have sc : scal x (.str z) = true → decide (x = V.str z) = eqS d z → wpAny (model X.prog X.w) X.A (compareOp .Eq v u) (EP X pins σ Q) X.xe s := fun h1 h2 => op_eq pins s σ H x (.str z) v u Q I rx ry ⟨h1, by rw [h2]; exact q⟩
  obtain ⟨t, rfl⟩ := ry
  have fin : PySem.SeqAt.RcAt X.A s v (.str z t) false → eqS d z = false → wpAny (model X.prog X.w) X.A (compareOp .Eq v (.str z t)) (EP X pins σ Q) X.xe s := fun h1 h2 => h1 X.prog X.w X.xe _ ⟨.bl false, H, I, rfl, by rw [← h2]; exact q⟩
  have hu1 : X.A.units < cLine := by omega
  cases hd with
  | non => exact sc rfl (decide_eq_false nofun)
  | bl b => exact sc rfl (decide_eq_false nofun)
  | int i => exact sc rfl (decide_eq_false nofun)
  | str x =>
    refine sc rfl ?_
    apply Bool.eq_iff_iff.mpr
    show _ ↔ decide (x = z) = true
    rw [decide_eq_true_eq, decide_eq_true_eq]
    exact ⟨fun e => by injection e, fun e => by rw [e]⟩
  | tup h _ =>
    cases rx
    obtain ⟨its, rv, ht, _⟩ := I.tuple (.inl (.inl h))
    exact fin (PySem.SeqAt.RcAt.tuple_str z t ht hu1) rfl
  | lst h _ _ =>
    cases rx
    obtain ⟨its, rv, ht, _⟩ := I.list (.inl (.inl h))
    exact fin (PySem.SeqAt.RcAt.list_str z t ht.isList hu1) rfl
  | dct h _ _ =>
    cases rx
    obtain ⟨_, _, us, _, ob, es, ep, ho, hx, hdt, _⟩ := (show ObjOk X.prog X.w H s.heap _ (.dK _) from I.hok _ _ h)
    exact fin (RcAt_dict_str z t ho hx.1 hdt hu1) rfl
theorem op_neS (hu : X.A.units + 64 < cLine) : OpR X (compareOp .NotEq) (fun x y H Q => ∃ S d z, DG S H x d ∧ y = .str z ∧ Q (.bl (!eqS d z)) H) := by
  intro pins s σ H x y v u Q I rx ry h
  obtain ⟨S, d, z, hd, rfl, q⟩ := h
  have sc : scal x (.str z) = true → decide (x = V.str z) = eqS d z → wpAny (model X.prog X.w) X.A (compareOp .NotEq v u) (EP X pins σ Q) X.xe s := fun h1 h2 => op_ne pins s σ H x (.str z) v u Q I rx ry ⟨h1, by rw [h2]; exact q⟩
  obtain ⟨t, rfl⟩ := ry
  have fin : PySem.SeqAt.RcNeAt X.A s v (.str z t) true → eqS d z = false → wpAny (model X.prog X.w) X.A (compareOp .NotEq v (.str z t)) (EP X pins σ Q) X.xe s := fun h1 h2 => h1 X.prog X.w X.xe _ ⟨.bl true, H, I, rfl, by rw [h2] at q; exact q⟩
  have hu1 : X.A.units < cLine := by omega
  cases hd with
  | non => exact sc rfl (decide_eq_false nofun)
  | bl b => exact sc rfl (decide_eq_false nofun)
  | int i => exact sc rfl (decide_eq_false nofun)
  | str x =>
    refine sc rfl ?_
    apply Bool.eq_iff_iff.mpr
    show _ ↔ decide (x = z) = true
    rw [decide_eq_true_eq, decide_eq_true_eq]
    exact ⟨fun e => by injection e, fun e => by rw [e]⟩
  | tup h _ =>
    cases rx
    obtain ⟨its, rv, ht, _⟩ := I.tuple (.inl (.inl h))
    exact fin (PySem.SeqAt.RcNeAt.tuple_str z t ht hu1) rfl
  | lst h _ _ =>
    cases rx
    obtain ⟨its, rv, ht, _⟩ := I.list (.inl (.inl h))
    exact fin (PySem.SeqAt.RcNeAt.list_str z t ht.isList hu1) rfl
  | dct h _ _ =>
    cases rx
    obtain ⟨_, _, us, _, ob, es, ep, ho, hx, hdt, _⟩ := (show ObjOk X.prog X.w H s.heap _ (.dK _) from I.hok _ _ h)
    exact fin (RcNeAt_dict_str z t ho hx.1 hdt hu1) rfl
end
end My

namespace My
open PySem PySem.Spec PyProof.Rows L2
/-! ### repr of data of any depth, with dicts in it -/
theorem keys_shown {h : Heap} (kvs : List (Key × V)) {ds : List PyData} (hl : kvs.length = ds.length) : (((kvs.map fun p => kD p.1).zip ds).map (·.1)) = kvs.map fun p => kD p.1 := List.map_fst_zip (by rw [List.length_map]; omega)
theorem vals_shown (kvs : List (Key × V)) {ds : List PyData} (hl : kvs.length = ds.length) : (((kvs.map fun p => kD p.1).zip ds).map (·.2)) = ds := List.map_snd_zip (by rw [List.length_map]; omega)
theorem readsAll_keys {P : Program} {w : World} {h : Heap} : ∀ {es : List DictEntry} {us : List (Key × Value)}, Pairs (mixKind P w) es us → ReadsAll h (es.map (·.key)) (us.map fun p => kD p.1) []
  | _, _, .nil => .nil
  | _, _, .cons hk hv hp => ReadsAll.cons (as := []) (key_reads _ _ hk) (readsAll_keys hp)
theorem keys_eq : ∀ {kvs : List (Key × V)} {us : List (Key × Value)}, KV kvs us → (us.map fun p => kD p.1) = kvs.map fun p => kD p.1
  | [], _, .nil => rfl
  | (k, v) :: kvs, (k', u) :: us, .cons r t => by
    have e : k = k' := r.1
    rw [List.map_cons, List.map_cons, keys_eq t, e]
theorem vals_of_pairs {P : Program} {w : World} : ∀ {kvs : List (Key × V)} {us : List (Key × Value)} {es : List DictEntry}, KV kvs us → Pairs (mixKind P w) es us → Vals (kvs.map (·.2)) (es.map (·.val))
  | _, _, _, .nil, .nil => .nil
  | _, _, _, .cons r t, .cons hk hv hp => .cons (by show RelV _ (DictEntry.val _); rw [hv]; exact r.2) (vals_of_pairs t hp)
section
variable {X : Cx} {pins : List (Addr × Obj)} {σ : L2.St} {H : Hp} {s : Shared} {S : Addr → Prop}
abbrev Sh (X : Cx) (h : Heap) (d : Nat) (bs : List Addr) (u : Value) (t : Str) : Prop := ReadAtMost h d bs ∧ ReprK X.prog X.w bs h d u t
mutual
theorem DG.shows (I : Inv X pins σ H s) : ∀ {v : V} {d : PyData} {u : Value}, DG S H v d → RelV v u → d.showable = true → d.shown.length ≤ sizeLine → ∃ as bs, Reads s.heap u d as ∧ Sh X s.heap d.depth bs u d.shown
  | _, _, _, .non, r, _, _ => by
    cases r
    exact ⟨_, [], Reads.none, fun _ h => (nomatch h), by simp only [PyData.shown]; exact .of_is ReprIs.none _ _ _⟩
  | _, _, _, .bl b, r, _, _ => by
    cases r
    exact ⟨_, [], Reads.bool b, fun _ h => (nomatch h), by simp only [PyData.shown]; exact .of_is (ReprIs.bool b) _ _ _⟩
  | _, _, _, .int i, r, hs, _ => by
    obtain ⟨t, rfl⟩ := r
    exact ⟨_, [], Reads.int i t, fun _ h => (nomatch h), by simp only [PyData.shown]; exact .of_is (ReprIs.int t (by simpa [PyData.showable] using hs)) _ _ _⟩
  | _, _, _, .str x, r, _, hz => by
    obtain ⟨t, rfl⟩ := r
    exact ⟨_, [], Reads.str x t, fun _ h => (nomatch h), by simp only [PyData.shown]; exact .of_is (ReprIs.str x t (by simpa only [PyData.shown] using hz)) _ _ _⟩
  | _, _, _, .tup (a := a) (ds := ds) h hds, r, hs, hz => by
    cases r
    have hz' : (tupleText (PyData.shownAll ds)).length ≤ sizeLine := by simpa only [PyData.shown] using hz
    obtain ⟨its, rv, ⟨o, ho, hc, n, hd⟩, _⟩ := I.tuple (.inl (.inl h))
    obtain ⟨as, bs, q1, hb, hk⟩ := DGs.shows I hds rv (by simpa [PyData.showable] using hs) fun t ht => Nat.le_trans (tupleText_mem_le ht) hz'
    have rr : Reads s.heap (.ref a) (.tuple ds) _ := .tuple ho hc hd (by simpa using q1)
    have hna : a ∉ bs := not_mem_of_deeper rr (by simp only [PyData.depth]; omega) hb
    refine ⟨_, a :: bs, rr, ReadAtMost.cons rr (by simp only [PyData.depth]; omega) hb, ?_⟩
    simp only [PyData.depth, PyData.shown]
    exact ReprK.tuple ho hc hd hna (by simpa using hk)
  | _, _, _, .lst (a := a) (ds := ds) h _ hds, r, hs, hz => by
    cases r
    have hz' : (listText (PyData.shownAll ds)).length ≤ sizeLine := by simpa only [PyData.shown] using hz
    obtain ⟨its, rv, ⟨o, n, ho, hc, _, hd⟩, _⟩ := I.list (.inl (.inl h))
    obtain ⟨as, bs, q1, hb, hk⟩ := DGs.shows I hds rv (by simpa [PyData.showable] using hs) fun t ht => Nat.le_trans (listText_mem_le ht) hz'
    have rr : Reads s.heap (.ref a) (.list ds) _ := .list ho hc hd (by simpa using q1)
    have hna : a ∉ bs := not_mem_of_deeper rr (by simp only [PyData.depth]; omega) hb
    refine ⟨_, a :: bs, rr, ReadAtMost.cons rr (by simp only [PyData.depth]; omega) hb, ?_⟩
    simp only [PyData.depth, PyData.shown]
    cases its with
    | nil =>
      cases q1
      simp only [PyData.shownAll, listText_nil]
      exact ReprK.listEmpty ho hc hd
    | cons x l => exact ReprK.list ho hc hd hna (by simpa using hk.length_eq) (fun i y e => hk.item i y (by simpa using e))
  | _, _, _, .dct (a := a) (kvs := kvs) (ds := ds) h _ hds, r, hs, hz => by
    cases r
    have hl : kvs.length = ds.length := by have := hds.length; rwa [List.length_map] at this
    obtain ⟨_, hsys, us, hkv, o, es, ep, ho, hx, hdat, _, hp, _⟩ := (show ObjOk X.prog X.w H s.heap a (.dK kvs) from I.hok a _ h)
    have ek := keys_shown (h := s.heap) kvs hl
    have ev := vals_shown kvs hl
    generalize hD : (kvs.map fun p => kD p.1).zip ds = D at hs hz ek ev ⊢
    have hz' : (dictText (PyData.shownKv D)).length ≤ sizeLine := by simpa only [PyData.shown] using hz
    obtain ⟨hs1, hs2⟩ := PyData.showableKv_split D (by simpa [PyData.showable] using hs)
    have k1 : ReadsAll s.heap (es.toList.map (·.key)) (D.map (·.1)) [] := by
      rw [ek, ← keys_eq hkv]
      exact readsAll_keys hp
    obtain ⟨b1, hb1, kk1⟩ := ReprAllK.of_readsAll (prog := X.prog) (w := X.w) k1 hs1 (fun _ hm => (nomatch hm)) (fun t ht => let ⟨p, hp, hl⟩ := PyData.shownKv_key_le D t ht; Nat.le_trans hl (Nat.le_trans (dictText_mem_le hp) hz'))
    obtain ⟨as2, b2, q2, hb2, kk2⟩ := DGs.shows I hds (vals_of_pairs hkv hp) (by rw [← ev]; exact hs2) (fun t ht => by
      rw [← ev] at ht
      obtain ⟨p, hp, hl⟩ := PyData.shownKv_val_le D t ht
      exact Nat.le_trans hl (Nat.le_trans (dictText_mem_le hp) hz'))
    rw [← ev] at q2 hb2 kk2
    have rr : Reads s.heap (.ref a) (.dict D) _ := .dict ho hx.1 hdat k1 q2
    have hb : ReadAtMost s.heap (PyData.depthKv D) (b1 ++ b2) := (hb1.mono (PyData.depthAll_keys_le D)).append (hb2.mono (PyData.depthAll_vals_le D))
    have hna : a ∉ b1 ++ b2 := not_mem_of_deeper rr (by simp only [PyData.depth]; omega) hb
    refine ⟨_, a :: (b1 ++ b2), rr, ReadAtMost.cons rr (by simp only [PyData.depth]; omega) hb, ?_⟩
    simp only [PyData.depth, PyData.shown, PyData.shownKv_eq]
    exact ReprK.dict ho hx.1 hdat hsys hna (ReprEntriesK.of_two es.toList _ _ (kk1.more_le (fun b hb => List.mem_append_left _ hb) (PyData.depthAll_keys_le D)) (kk2.more_le (fun b hb => List.mem_append_right _ hb) (PyData.depthAll_vals_le D)))
theorem DGs.shows (I : Inv X pins σ H s) : ∀ {vs : List V} {ds : List PyData} {us : List Value}, DGs S H vs ds → Vals vs us → PyData.showableAll ds = true → (∀ t ∈ PyData.shownAll ds, t.length ≤ sizeLine) →
    ∃ as bs, ReadsAll s.heap us ds as ∧ ReadAtMost s.heap (PyData.depthAll ds) bs ∧ ReprAllK X.prog X.w bs s.heap (PyData.depthAll ds) us (PyData.shownAll ds)
  | _, _, _, .nil, .nil, _, _ => ⟨_, [], ReadsAll.nil, fun _ h => (nomatch h), by simp only [PyData.shownAll]; exact .nil⟩
  | _, _, _, .cons (d := d) (ds := ds) h hds, .cons r rs, hs, hz => by
    have hs' : d.showable = true ∧ PyData.showableAll ds = true := by simpa [PyData.showableAll] using hs
    obtain ⟨a1, b1, q1, hb1, k1⟩ := DG.shows I h r hs'.1 (hz _ (by simp only [PyData.shownAll]; exact List.mem_cons_self ..))
    obtain ⟨a2, b2, q2, hb2, k2⟩ := DGs.shows I hds rs hs'.2 (fun t ht => hz t (by simp only [PyData.shownAll]; exact List.mem_cons_of_mem _ ht))
    refine ⟨_, b1 ++ b2, ReadsAll.cons q1 q2, (hb1.mono ?_).append (hb2.mono ?_), ?_⟩
    · simp only [PyData.depthAll]; exact Nat.le_max_left _ _
    · simp only [PyData.depthAll]; exact Nat.le_max_right _ _
    · simp only [PyData.depthAll, PyData.shownAll]
      exact .cons ((k1.more fun b hb => List.mem_append_left _ hb).level_le (Nat.le_max_left _ _)) (k2.more_le (fun b hb => List.mem_append_right _ hb) (Nat.le_max_right _ _))
end
/-- repr of any data -/
theorem call_reprA (hG : X.A.guards = some []) (hu : X.A.units + 64 < cLine) : CallR X (.builtin "repr") (fun xs H Q => ∃ S x d, xs = [x] ∧ DG S H x d ∧ d.showable = true ∧ d.depth ≤ 60 ∧ d.shown.length ≤ sizeLine ∧ Q (.str d.shown) H) := by
  intro pins s σ H xs us Q I r h
  obtain ⟨S, x, d, rfl, hd, hs, hp, hz, q⟩ := h
  obtain ⟨u, rfl, rx⟩ := vals1 r
  have fin : ∀ {h' : Heap} {t : Tok} {tk : Nat}, (∀ b o, s.heap.get? b = some o → h'.get? b = some o) → EP X pins σ Q (.str d.shown t) { s with heap := h', toks := tk } := fun {h' t tk} hk => ⟨.str _, H, I.kept hk, ⟨_, rfl⟩, q⟩
  have clear : ∀ b ∈ ([] : List Addr), Clear ([] : List Code) b := fun b z => nomatch z
  cases hd with
  | non => cases rx; exact PySem.P.repr_of_none ⟨.str _, H, I.tok _, ⟨_, rfl⟩, q⟩
  | bl b => cases rx; exact PySem.P.repr_of_bool ⟨.str _, H, I.tok _, ⟨_, rfl⟩, q⟩
  | int i =>
    obtain ⟨t, rfl⟩ := rx
    exact PySem.P.repr_of_int (by simpa [PyData.showable] using hs) ⟨.str _, H, I.tok _, ⟨_, rfl⟩, q⟩
  | str z =>
    obtain ⟨t, rfl⟩ := rx
    exact PySem.P.repr_of_str ⟨.str _, H, I.tok _, ⟨_, rfl⟩, q⟩ hz
  | @tup a xs ds h hds =>
    cases rx
    have hz' : (tupleText (PyData.shownAll ds)).length ≤ sizeLine := by simpa only [PyData.shown] using hz
    obtain ⟨its, rv, ⟨o, ho, hc, n, hd⟩, _⟩ := I.tuple (.inl (.inl h))
    obtain ⟨as, bs, q1, hb, hk⟩ := DGs.shows I hds rv (by simpa [PyData.showable] using hs) fun t ht => Nat.le_trans (tupleText_mem_le ht) hz'
    have rr : Reads s.heap (.ref a) (.tuple ds) _ := .tuple ho hc hd (by simpa using q1)
    have hna : a ∉ bs := not_mem_of_deeper rr (by simp only [PyData.depth]; omega) hb
    have hp' : PyData.depthAll ds + 1 ≤ 60 := hp
    refine call_repr_slot (by omega) ⟨o, ho, hc⟩ F.slot_tuple_repr (call_tuple_reprK (h₀ := s.heap) ho hc hd hna (by simpa using hk) (A := X.A.in1) hG (fun b _ => Clear.nil b) (by show X.A.units + 1 + _ < cLine; omega) (fun _ _ e => e) (fun h' u tk hk2 => ⟨_, _, rfl, ?_⟩) hz')
    exact fin hk2
  | @lst a xs ds h nS hds =>
    cases rx
    have hz' : (listText (PyData.shownAll ds)).length ≤ sizeLine := by simpa only [PyData.shown] using hz
    obtain ⟨its, rv, ⟨o, n, ho, hc, _, hd⟩, _⟩ := I.list (.inl (.inl h))
    obtain ⟨as, bs, q1, hb, hk⟩ := DGs.shows I hds rv (by simpa [PyData.showable] using hs) fun t ht => Nat.le_trans (listText_mem_le ht) hz'
    have rr : Reads s.heap (.ref a) (.list ds) _ := .list ho hc hd (by simpa using q1)
    have hna : a ∉ bs := not_mem_of_deeper rr (by simp only [PyData.depth]; omega) hb
    have hp' : PyData.depthAll ds + 1 ≤ 60 := hp
    cases its with
    | nil =>
      cases q1
      refine call_repr_slot (by omega) ⟨o, ho, hc⟩ F.slot_list_repr.toG (call_list_repr_empty ⟨o, ho, hc⟩ ho hd ⟨_, _, rfl, ?_⟩)
      have e : (PyData.list []).shown = "[]" := by simp only [PyData.shown, PyData.shownAll, listText_nil]
      rw [e] at q
      exact ⟨.str _, H, I.tok _, ⟨_, rfl⟩, q⟩
    | cons x l =>
      refine call_repr_slot (by omega) ⟨o, ho, hc⟩ F.slot_list_repr.toG (call_list_reprK (h₀ := s.heap) ho hc hd hna (by simpa using hk.length_eq) (fun i y e => hk.item i y (by simpa using e)) (A := X.A.in1) hG (fun b _ => Clear.nil b) (by show X.A.units + 1 + _ < cLine; omega) (fun _ _ e => e) (fun h' u tk hk2 => ⟨_, _, rfl, ?_⟩) hz')
      exact fin hk2
  | @dct a kvs ds h nS hds =>
    cases rx
    have hl : kvs.length = ds.length := by have := hds.length; rwa [List.length_map] at this
    obtain ⟨_, hsys, us, hkv, o, es, ep, ho, hx, hdat, _, hpp, _⟩ := (show ObjOk X.prog X.w H s.heap a (.dK kvs) from I.hok a _ h)
    have ek := keys_shown (h := s.heap) kvs hl
    have ev := vals_shown kvs hl
    generalize hD : (kvs.map fun p => kD p.1).zip ds = D at hs hz hp q ek ev fin ⊢
    have hz' : (dictText (PyData.shownKv D)).length ≤ sizeLine := by simpa only [PyData.shown] using hz
    obtain ⟨hs1, hs2⟩ := PyData.showableKv_split D (by simpa [PyData.showable] using hs)
    have k1 : ReadsAll s.heap (es.toList.map (·.key)) (D.map (·.1)) [] := by
      rw [ek, ← keys_eq hkv]
      exact readsAll_keys hpp
    obtain ⟨b1, hb1, kk1⟩ := ReprAllK.of_readsAll (prog := X.prog) (w := X.w) k1 hs1 (fun _ hm => (nomatch hm)) (fun t ht => let ⟨p, hp, hl⟩ := PyData.shownKv_key_le D t ht; Nat.le_trans hl (Nat.le_trans (dictText_mem_le hp) hz'))
    obtain ⟨as2, b2, q2, hb2, kk2⟩ := DGs.shows I hds (vals_of_pairs hkv hpp) (by rw [← ev]; exact hs2) (fun t ht => by
      rw [← ev] at ht
      obtain ⟨p, hp, hl⟩ := PyData.shownKv_val_le D t ht
      exact Nat.le_trans hl (Nat.le_trans (dictText_mem_le hp) hz'))
    rw [← ev] at q2 hb2 kk2
    have rr : Reads s.heap (.ref a) (.dict D) _ := .dict ho hx.1 hdat k1 q2
    have hb : ReadAtMost s.heap (PyData.depthKv D) (b1 ++ b2) := (hb1.mono (PyData.depthAll_keys_le D)).append (hb2.mono (PyData.depthAll_vals_le D))
    have hna : a ∉ b1 ++ b2 := not_mem_of_deeper rr (by simp only [PyData.depth]; omega) hb
    have hp' : PyData.depthKv D + 1 ≤ 60 := hp
    refine call_repr_slot (by omega) ⟨o, ho, hx.1⟩ F.slot_dict_repr (call_dict_reprK (h₀ := s.heap) ho hx.1 hdat hsys hna (ReprEntriesK.of_two es.toList _ _
      (kk1.more_le (fun b hb => List.mem_append_left _ hb) (PyData.depthAll_keys_le D)) (kk2.more_le (fun b hb => List.mem_append_right _ hb) (PyData.depthAll_vals_le D))) (A := X.A.in1) hG (fun b _ => Clear.nil b) (by show X.A.units + 1 + _ < cLine; omega) (fun _ _ e => e) (fun h' u tk hk2 => ⟨_, _, rfl, ?_⟩) (by rw [← PyData.shownKv_eq]; exact hz'))
    have := fin (t := u) (tk := tk) hk2
    simpa only [PyData.shown, PyData.shownKv_eq] using this
end
section
variable {X : Cx} {e : Expr} {σ : L2.St} {H : Hp} {Q : VK} {pos p : Pos}
theorem e_reprA (hm : X.mg "repr" = none) (hG : X.A.guards = some []) (hu : X.A.units + 64 < cLine) (h : WE X e σ H fun x H1 => ∃ S d, DG S H1 x d ∧ d.showable = true ∧ d.depth ≤ 60 ∧ d.shown.length ≤ sizeLine ∧ Q (.str d.shown) H1) (hg : Gl X "repr" := by rfl)
    (he : starEach [e] X.env = (false, eval e X.env) :: starEach [] X.env := by rfl) (hpl : (backTo pos (starEach [] X.env)).any (·.1) = false := by rfl) : WE X (.Call (.Name "repr" p) [e] [] pos) σ H Q :=
  e_callB (call_reprA hG hu) hm PyProof.Rows.boot_repr (a_cons (WE.mono h fun x H1 ⟨S, d, h1, h3, h4, h5, q⟩ => a_nil ⟨S, x, d, rfl, h1, h3, h4, h5, q⟩) he) hg (by decide) (by decide) he hpl
end
end My

namespace My
open PySem PySem.Spec PyProof.Rows L2
/-! ### sorted of a tuple of texts -/
section
variable {P : Program} {w : World} {A : Around} {E : Value → Shared → Prop} {z : Shared} {a : Addr} {us : List Value}
theorem gather_tup {Q : List Value → Shared → Prop} (ht : z.heap.IsTuple a us.toArray) (hn : us.length ≤ sizeLine)
    (k : Q us { z with heap := (z.heap.push (seqObj "list" #[] 0)).update z.heap.objs.size (Obj.mapSeq (· ++ us.toArray)) }) : wpAny (model P w) A (collect (.ref a)) Q E z := by
  obtain ⟨ob, hob, hcl, m, hda⟩ := id ht
  have hob2 : (z.heap.push (seqObj "list" #[] 0)).get? a = some ob := Heap.get?_push_of_some _ hob
  have hnew : (z.heap.push (seqObj "list" #[] 0)).get? z.heap.objs.size = some (seqObj "list" #[] 0) := Heap.get?_push_size _ rfl
  unfold collect
  refine wpAny_bind (wpAny_runValue (codeAny_builtin entry_proto_collect' ?_))
  show wpAny _ _ (do again (.builtin "list.__iadd__" ⟨[← newList [], .ref a], []⟩)) _ _ z
  refine wpAny_bind (wpAny_newList (wpAny_pure ⟨Code.quiet_builtin _ (by decide +kernel), codeAny_builtin entry_list_iadd' ?_⟩))
  show wpAny _ _ (Builtin.List.listExtendWith (.ref z.heap.objs.size) (.ref a) (.ref z.heap.objs.size)) _ _ { z with heap := z.heap.push (seqObj "list" #[] 0) }
  unfold Builtin.List.listExtendWith
  refine wpAny_bind (wpAny_typeOf (T := "tuple") ⟨ob, hob2, hcl⟩ ?_)
  have ett : (Value.type "tuple" == Value.type "tuple") = true := by decide
  rw [if_pos (by rw [ett]; simp)]
  refine wpAny_bind (listItems_at hob2 hda ?_)
  refine wpAny_bind (listItems_at hnew rfl ?_)
  rw [if_neg (by simp)]
  refine wpAny_bind (listUpdate_at hnew rfl ?_ (Nat.zero_le _) (by show (#[] ++ us.toArray).size ≤ sizeLine + 1; rw [Array.size_append, List.size_toArray]; show 0 + us.length ≤ _; omega))
  refine wpAny_pure ?_
  refine wpAny_bind (wpAny_load (get?_update_seq hnew _) ?_)
  show wpAny _ _ (pure ((#[] : Array Value) ++ us.toArray).toList) Q E _
  have e : ((#[] : Array Value) ++ us.toArray).toList = us := by simp
  rw [e]
  exact wpAny_pure k
theorem sorted_tup {xs : List Str} {Q : Value → Shared → Prop} (ht : z.heap.IsTuple a us.toArray) (hs : StrsAre us xs) (h64 : us.length < 64)
    (k : ∀ (out : Array Value) (ys : List Str), StrsAre out.toList ys → ys.Perm xs → sortedS ys = true → Q (.ref (z.heap.objs.size + 1)) { z with heap := sortedAll z.heap us out }) : wpAny (model P w) A (call (.builtin "sorted") [.ref a]) Q E z := by
  refine Calls.call_function_entry kind_sorted plain_sorted entry_sorted (args_sorted1 _) ?_
  unfold Builtin.«sorted»
  refine wpAny_bind (m := checkCount "sorted" 1 1 _) (wpAny_pure ?_)
  refine wpAny_bind (gather_tup ht (Nat.le_trans (Nat.le_of_lt h64) (by decide)) ?_)
  refine wpAny_bind (wpAny_newList ?_)
  have hsz : ((z.heap.push (seqObj "list" #[] 0)).update z.heap.objs.size (Obj.mapSeq (· ++ us.toArray))).objs.size = z.heap.objs.size + 1 := by rw [Heap.size_update, size_push']
  have hL : (((z.heap.push (seqObj "list" #[] 0)).update z.heap.objs.size (Obj.mapSeq (· ++ us.toArray))).push (seqObj "list" us.toArray 0)).get? (z.heap.objs.size + 1) = some (seqObj "list" us.toArray 0) := by rw [← hsz]; exact Heap.get?_push_size _ rfl
  show wpAny _ _ _ _ _ { z with heap := ((z.heap.push (seqObj "list" #[] 0)).update z.heap.objs.size (Obj.mapSeq (· ++ us.toArray))).push (seqObj "list" us.toArray 0) }
  rw [hsz]
  refine wpAny_bind (wpAny_holding (wpAny_call_entry slot_list_sort ⟨_, hL, rfl⟩ entry_list_sort (list_sort_treeK strKind_oneLt hL hs.keysOf (fun v1 v2 r e => keyKind_strs (by rw [← e]; exact hs)) h64 fun st hp hst => ⟨_, rfl, ?_⟩) (args_list_sort _)))
  obtain ⟨ys, h1, h2, h3⟩ := sorted_out_str hs hp hst
  exact wpAny_pure ⟨_, rfl, k _ ys h1 h2 h3⟩
end
section
variable {X : Cx}
theorem cr_sortedTS : CallR X (.builtin "sorted") (fun vs H Q => ∃ (a : Addr) (xs : List Str), vs = [V.ref a] ∧ SqT X.K H a (xs.map V.str) ∧ xs.length < 64 ∧ ∀ (ys : List Str) (p : Addr), ys.Perm xs → sortedS ys = true → H p = none → Q (.ref p) (upd H p (.lst (ys.map V.str)))) := by
  intro pins s σ H vs us Q I r h
  obtain ⟨a, xs, rfl, hs, h64, q⟩ := h
  obtain ⟨its, rv, ht, _⟩ := I.tuple hs
  obtain ⟨u, rfl, ru⟩ := vals1 r
  cases ru
  have hl := rv.length
  rw [List.length_map] at hl
  refine sorted_tup ht rv.strs (by omega) fun out ys h1 h2 h3 => ?_
  obtain ⟨ep, he⟩ := sortedAll_at s.heap its out
  have hlen : (ys.map V.str).length ≤ sizeLine := by rw [List.length_map, h2.length_eq]; exact small64 h64
  exact ⟨.ref _, upd H (s.heap.objs.size + 1) (.lst (ys.map V.str)), I.laid (t' := s.toks) (fun _ _ => sortedAll_old) (Nat.le_succ _) ⟨hlen, out.toList, ep, vals_of_strs h1, he⟩, rfl, q ys _ h2 h3 (I.hok.fresh (Nat.le_succ _))⟩
end
end My

namespace My
open PySem PySem.Spec PyProof.Rows L2
/-! ### len(set(texts)) -/
/-- how many different texts stand among the first i -/
def cnt (xs : List Str) : Nat → Nat
  | 0 => 0
  | i + 1 => if (xs.take i).any (· == xs.getD i Str.empty) then cnt xs i else cnt xs i + 1
theorem cnt_le (xs : List Str) : ∀ i, cnt xs i ≤ i
  | 0 => Nat.le_refl _
  | i + 1 => by
    have := cnt_le xs i
    have e : cnt xs (i + 1) = if (xs.take i).any (· == xs.getD i Str.empty) then cnt xs i else cnt xs i + 1 := rfl
    rw [e]
    split
    · exact Nat.le_succ_of_le this
    · exact Nat.succ_le_succ this
theorem take_one {xs : List Str} {i : Nat} (h : i < xs.length) : xs.take (i + 1) = xs.take i ++ [xs.getD i Str.empty] := by
  have e : xs.getD i Str.empty = xs[i] := by rw [List.getD_eq_getElem?_getD, List.getElem?_eq_getElem h]; rfl
  rw [e, List.take_succ_eq_append_getElem h]
theorem cnt_nodup (xs : List Str) : ∀ i, i ≤ xs.length → (cnt xs i = i ↔ (xs.take i).Nodup)
  | 0, _ => by simp [cnt]
  | i + 1, h => by
    have ih := cnt_nodup xs i (by omega)
    have hle := cnt_le xs i
    have hlt : i < xs.length := by omega
    rw [take_one hlt]
    show ((if (xs.take i).any (· == xs.getD i Str.empty) then cnt xs i else cnt xs i + 1) = i + 1) ↔ _
    rw [List.nodup_append]
    by_cases c : (xs.take i).any (· == xs.getD i Str.empty) = true
    · rw [if_pos c]
      constructor
      · intro e; omega
      · intro ⟨_, _, n⟩
        obtain ⟨y, hy, e⟩ := List.any_eq_true.mp c
        exact absurd (eq_of_beq e) (n y hy _ (List.mem_singleton.mpr rfl))
    · rw [if_neg c]
      constructor
      · intro e
        refine ⟨ih.mp (by omega), by simp, fun y hy z hz e2 => c (List.any_eq_true.mpr ⟨y, hy, ?_⟩)⟩
        rw [List.mem_singleton.mp hz] at e2
        rw [e2]; exact beq_self_eq_true _
      · intro ⟨n, _, _⟩
        rw [ih.mpr n]
section
variable {P : Program} {w : World} {A : Around} {R : Result → Shared → Prop} {I S : Addr} {fp wr : List Addr} {G : Array GenState → Array GenState → Prop} {n : Nat} {Pi : Nat → Value → Prop} {St : Nat → Shared → Prop}
abbrev Holds (P : Program) (w : World) (h : Heap) (S : Addr) (xs : List Str) (i : Nat) : Prop := h.SetOf (PySem.strKind P w) S (fun k => (xs.take i).any (· == k)) (cnt xs i)
theorem Holds.at {h h' : Heap} {xs : List Str} {i : Nat} (x : Holds P w h S xs i) (k : ∀ o, h.get? S = some o → h'.get? S = some o) : Holds P w h' S xs i := by
  obtain ⟨o, es, ep, tb, ho, more⟩ := x
  exact ⟨o, es, ep, tb, k o ho, more⟩
theorem set_turns (W : WalksS P w A.in1 I fp wr G n Pi St) (nS : S ∉ fp) (xs : List Str) (hn : xs.length = n) (h64 : n ≤ 1000) (hv : ∀ i v, Pi i v → ∃ t, v = .str (xs.getD i Str.empty) t) :
    ∀ (m i : Nat) (z : Shared), i + m = n → St i z → Holds P w z.heap S xs i →
      (∀ z', Moved (S :: wr) G z z' → Holds P w z'.heap S xs n → R (.ok (.ret .none)) z') → codeAny (model P w) A (.builtin "set.update.loop" ⟨[.ref S, .ref I], []⟩) R z := by
  have nSw : S ∉ wr := fun h => nS (W.sub _ h)
  have more : ∀ b ∈ wr, b ∈ S :: wr := fun b hb => List.mem_cons_of_mem _ hb
  intro m
  induction m with
  | zero =>
    intro i z hi st hS k
    have ei : i = n := by omega
    subst ei
    refine codeAny_builtin PyProof.Rows.F.entry_set_update_loop ?_
    rw [Around.under_plainId PyProof.Rows.F.plain_set_update_loop _]
    show wpAny _ A.in1 (pyNext (.ref I) >>= _) _ _ z
    refine wpAny_bind (W.done z _ _ st fun z' mv => ?_)
    show wpAny _ A.in1 (ret Value.none) _ _ z'
    exact wpAny_pure (k z' (mv.mono more) (hS.at fun o ho => mv.heap S _ nSw ho))
  | succ m ih =>
    intro i z hi st hS k
    have hlt : i < n := by omega
    refine codeAny_builtin PyProof.Rows.F.entry_set_update_loop ?_
    rw [Around.under_plainId PyProof.Rows.F.plain_set_update_loop _]
    show wpAny _ A.in1 (pyNext (.ref I) >>= _) _ _ z
    refine wpAny_bind (W.item i z _ _ hlt st fun v z' hP st' mv => ?_)
    obtain ⟨t, rfl⟩ := hv i v hP
    have hS' : Holds P w z'.heap S xs i := hS.at fun o ho => mv.heap S _ nSw ho
    show wpAny _ A.in1 (holding [Value.str (xs.getD i Str.empty) t] (setAdd S (.str (xs.getD i Str.empty) t)) >>= _) _ _ z'
    refine wpAny_bind (wpAny_holding ?_)
    unfold setAdd
    refine wpAny_holding (wpAny_bind ((PySem.strKind P w).pyHash (k := xs.getD i Str.empty) (strKind_is _ _ _ _) ?_))
    refine wpAny_setAddHashed_of (knd := PySem.strKind P w) (s := { z' with toks := z'.toks + 1 }) (strKind_is _ _ _ _) rfl hS' (by have := cnt_le xs i; unfold scanBound; omega) fun h' only hS2 => ?_
    have hSi : Holds P w h' S xs (i + 1) := by
      refine SetOf_congr hS2 (fun y => ?_) rfl
      show ((xs.take i).any (· == y) || decide (y = xs.getD i Str.empty)) = (xs.take (i + 1)).any (· == y)
      rw [take_one (by omega), List.any_append]
      have e : [xs.getD i Str.empty].any (· == y) = decide (y = xs.getD i Str.empty) := by
        by_cases e : y = xs.getD i Str.empty
        · subst e; simp
        · have hb : (xs.getD i Str.empty == y) = false := beq_eq_false_iff_ne.mpr fun q => e q.symm
          rw [decide_eq_false e]
          show ((xs.getD i Str.empty == y) || false) = false
          rw [hb]; rfl
      rw [e]
    refine wpAny_pure ⟨plainId_quiet PyProof.Rows.F.plain_set_update_loop _, ih (i + 1) _ (by omega) (W.frame _ z' _ _ st' (Nat.le_succ _) fun b hb o e => ?_) hSi fun z2 mv2 hS3 => ?_⟩
    · rw [only.2 b fun q : b = S => nS (by rw [← q]; exact hb)]; exact e
    · refine k z2 (Moved.trans W.gtrans ((mv.mono more).then_heap (Nat.le_succ _) fun b o hb e => ?_) mv2) hS3
      rw [only.2 b fun q : b = S => hb (by rw [q]; exact List.mem_cons_self)]; exact e
end
section
variable {P : Program} {w : World} {A : Around} {E : Value → Shared → Prop} {z : Shared}
abbrev set0 (led : Bool) : Obj := { cls := .type "set", dict := none, data := .set #[] 0 (.fresh 0 0 led) }
set_option maxHeartbeats 4000000 in
theorem make_set {a : Addr} {us : Array Value} {xs : List Str} {Q : Value → Shared → Prop} (calm : A.handled = none) (hseq : z.heap.IsList a us ∨ z.heap.IsTuple a us) (hi : StrsAre us.toList xs) (h1000 : xs.length ≤ 1000)
    (k : ∀ (h' : Heap) (tk : Nat), Holds P w h' z.heap.objs.size xs xs.length → (∀ b o, b < z.heap.objs.size → z.heap.get? b = some o → h'.get? b = some o) → Q (.ref z.heap.objs.size) { z with heap := h', toks := tk }) :
    wpAny (model P w) A (call (.type "set") [.ref a]) Q E z := by
  obtain ⟨c, tl, hmro⟩ := PySem.F.called_set.mro
  have hmade := PySem.F.called_set.made
  have hsub := PySem.F.called_set.sub
  have hsz : xs.length = us.size := by rw [← StrsAre.len_eq hi, Array.length_toList]
  have hval : ∀ (i : Nat) (v : Value), us[i]? = some v → ∃ t, v = .str (xs.getD i Str.empty) t := fun i v hv => SS.strs_at hi i v (by rw [Array.getElem?_toList]; exact hv)
  refine wpAny_call (codeAny_of_tree ?_)
  show wpAny _ _ (callAny (.type "set") _) _ _ _
  refine wpAny_pure ⟨Code.quiet_builtin _ (by decide +kernel), codeAny_builtin PySem.F.entry_type_call ?_⟩
  rw [Around.under_plain (weight_type_call_type "set" [.ref a] []) rfl]
  have t1 := PySem.F.called_set.notType
  have t2 := PySem.F.called_set.canCreate
  have t3 := PySem.F.typeCall_set_1 (.ref a)
  repeat (any_goals (first | assumption | wp_step))
  refine codeAny_mono (code_set_new_1 (.ref a) (E := E) (Q₁ := fun ob z1 => ∃ led : Bool, ob = .ref z.heap.objs.size ∧ z1 = { z with heap := z.heap.push (set0 led) }) fun led => ⟨led, rfl, rfl⟩) fun r z1 hr => ?_
  cases r with
  | error e => exact hr
  | ok fl =>
    cases fl with
    | next => exact hr.elim
    | brk => exact hr.elim
    | cont => exact hr.elim
    | ret ob =>
      obtain ⟨led, rfl, rfl⟩ := hr
      have hS : (z.heap.push (set0 led)).get? z.heap.objs.size = some (set0 led) := Heap.get?_push_size _ rfl
      have hT : Shared.TypeIs { z with heap := z.heap.push (set0 led) } (.ref z.heap.objs.size) "set" := ⟨_, hS, rfl⟩
      have hli := PySem.F.called_set.init.lookup
      have hbi := PySem.F.called_set.init.bind (.ref z.heap.objs.size)
      repeat (any_goals (first | assumption | wp_step))
      refine codeAny_mono (codeAny_call_builtin (R := wants (fun r z2 => r = .none ∧ ∃ h' tk, z2 = { z with heap := h', toks := tk } ∧ Holds P w h' z.heap.objs.size xs xs.length ∧
          (∀ b o, b < z.heap.objs.size → z.heap.get? b = some o → h'.get? b = some o)) E) PySem.F.called_set.init.plain PySem.F.entry_set_init (check_set_init_1 hT ?_)) fun r2 z2 hr2 => ?_
      · have fin : ∀ (T : String) (ob0 : Obj), a < z.heap.objs.size → ∀ z3 : Shared, Moved (z.heap.objs.size :: [(z.heap.push (set0 led)).objs.size]) (fun a b => b = a) { z with heap := (z.heap.push (set0 led)).push ob0 } z3 →
            Holds P w z3.heap z.heap.objs.size xs us.size → wants (fun r z2 => r = .none ∧ ∃ h' tk, z2 = { z with heap := h', toks := tk } ∧ Holds P w h' z.heap.objs.size xs xs.length ∧
              (∀ b o, b < z.heap.objs.size → z.heap.get? b = some o → h'.get? b = some o)) E (.ok (.ret .none)) z3 := by
          intro T ob0 ha z3 mv hS3
          obtain ⟨h', g', d', tk', os'⟩ := z3
          have e1 : g' = z.gens := mv.gens
          have e2 : d' = z.drawn := mv.drawn
          have e3 : os' = z.os := mv.os
          subst e1; subst e2; subst e3
          refine ⟨rfl, h', tk', rfl, by rw [hsz]; exact hS3, fun b o hb e => mv.heap b o (fun q => ?_) (Heap.get?_push_of_some _ (Heap.get?_push_of_some _ e))⟩
          rcases List.mem_cons.mp q with q | q
          · exact absurd q (Nat.ne_of_lt hb)
          · have q := List.mem_singleton.mp q
            rw [Heap.size_push] at q
            exact absurd q (Nat.ne_of_lt (Nat.lt_succ_of_lt hb))
        have calm3 : A.in1.in1.in1.handled = none := by simp [calm]
        have start : ∀ ob0 : Obj, Holds P w ((z.heap.push (set0 led)).push ob0) z.heap.objs.size xs 0 := fun ob0 =>
          SetOf_congr ((setObjOf_fresh (knd := PySem.strKind P w) led).setOf (Heap.get?_push_of_some _ hS) (by unfold scanBound; omega)) (fun _ => rfl) rfl
        rcases hseq with hl | hl
        · obtain ⟨⟨oc, od, oda, osl⟩, hol, hcl, nl, hdl⟩ := hl
          simp only at hcl hdl
          subst hcl; subst hdl
          have hlt : a < z.heap.objs.size := Heap.lt_size hol
          have hol' := Heap.get?_push_of_some (set0 led) hol
          have hsls := PySem.F.sub_list_set
          have hslf := PySem.F.sub_list_frozenset
          have hne : (Value.type "list" == Value.type "dict") = false := by decide
          have hl1 : (z.heap.push (set0 led)).IsList a us := ⟨_, hol', rfl, nl, rfl⟩
          unfold Builtin.«set.__init__» noKeywords Builtin.Frozenset.updateFrom
          generalize hPI : pyIter = PI
          wp_walk
          subst hPI
          refine wpAny_pyIter_list hl1 (wpAny_bind (wpAny_runValue ?_))
          have n1 : a ≠ (z.heap.push (set0 led)).objs.size := by rw [Heap.size_push]; exact Nat.ne_of_lt (Nat.lt_succ_of_lt hlt)
          have n2 : z.heap.objs.size ∉ [(z.heap.push (set0 led)).objs.size, a] := by
            rw [Heap.size_push]; simp only [List.mem_cons, List.not_mem_nil, or_false, not_or]; exact ⟨Nat.ne_of_lt (Nat.lt_succ_self _), Nat.ne_of_gt hlt⟩
          refine set_turns ((Walks.list calm3 _ a n1 us).toS) n2 xs hsz (by omega) hval us.size 0 _ (by omega) ⟨⟨_, Heap.get?_push_size _ rfl, rfl, rfl⟩, (hl1.push _)⟩ (start _) fun z3 mv hS3 => ?_
          obtain ⟨_, h', tk, rfl, q1, q2⟩ := fin "list" _ hlt z3 mv hS3
          show wpAny _ _ _ _ _ _
          refine wpAny_pure ?_
          show wpAny _ _ (ret Value.none) _ _ _
          exact wpAny_pure ⟨rfl, h', tk, rfl, q1, q2⟩
        · obtain ⟨⟨oc, od, oda, osl⟩, hol, hcl, nl, hdl⟩ := hl
          simp only at hcl hdl
          subst hcl; subst hdl
          have hlt : a < z.heap.objs.size := Heap.lt_size hol
          have hol' := Heap.get?_push_of_some (set0 led) hol
          have hsls := PySem.F.sub_tuple_set
          have hslf := PySem.F.sub_tuple_frozenset
          have hne : (Value.type "tuple" == Value.type "dict") = false := by decide
          have hl1 : (z.heap.push (set0 led)).IsTuple a us := ⟨_, hol', rfl, nl, rfl⟩
          unfold Builtin.«set.__init__» noKeywords Builtin.Frozenset.updateFrom
          generalize hPI : pyIter = PI
          wp_walk
          subst hPI
          refine wpAny_pyIter_tuple hl1 (wpAny_bind (wpAny_runValue ?_))
          have n1 : a ≠ (z.heap.push (set0 led)).objs.size := by rw [Heap.size_push]; exact Nat.ne_of_lt (Nat.lt_succ_of_lt hlt)
          have n2 : z.heap.objs.size ∉ [(z.heap.push (set0 led)).objs.size, a] := by
            rw [Heap.size_push]; simp only [List.mem_cons, List.not_mem_nil, or_false, not_or]; exact ⟨Nat.ne_of_lt (Nat.lt_succ_self _), Nat.ne_of_gt hlt⟩
          refine set_turns ((Walks.tuple calm3 _ a n1 us).toS) n2 xs hsz (by omega) hval us.size 0 _ (by omega) ⟨⟨_, Heap.get?_push_size _ rfl, rfl, rfl⟩, (hl1.push _)⟩ (start _) fun z3 mv hS3 => ?_
          obtain ⟨_, h', tk, rfl, q1, q2⟩ := fin "tuple" _ hlt z3 mv hS3
          show wpAny _ _ _ _ _ _
          refine wpAny_pure ?_
          show wpAny _ _ (ret Value.none) _ _ _
          exact wpAny_pure ⟨rfl, h', tk, rfl, q1, q2⟩
      · cases r2 with
        | error e => exact hr2
        | ok fl2 =>
          cases fl2 with
          | next => exact hr2.elim
          | brk => exact hr2.elim
          | cont => exact hr2.elim
          | ret r =>
            obtain ⟨rfl, h', tk, rfl, hS', hk'⟩ := hr2
            repeat (any_goals (first | assumption | wp_step))
            exact k _ _ hS' hk'
end
section
variable {X : Cx} {a : Expr} {σ : L2.St} {H : Hp} {Q : VK} {p p2 q pos : Pos}
/-- len(set(xs)), xs a list or tuple of texts -/
theorem e_lenSet (hm : X.mg "len" = none) (hm2 : X.mg "set" = none) (h : WE X a σ H fun x H1 => ∃ l, ∃ xs : List Str, x = .ref l ∧ (SqL X.K H1 l (xs.map V.str) ∨ SqT X.K H1 l (xs.map V.str)) ∧ xs.length ≤ 1000 ∧ Q (.int (cnt xs xs.length)) H1)
    (hc : X.calm = true := by rfl) (hg : Gl X "len" := by rfl) (hg2 : Gl X "set" := by rfl) (na : starEach [a] X.env = (false, eval a X.env) :: starEach [] X.env := by rfl) :
    WE X (.Call (.Name "len" p) [.Call (.Name "set" p2) [a] [] q] [] pos) σ H Q := by
  constructor
  intro pins s I
  refine Call_ (ld_blt I hg hm boot_len ?_)
  refine PyProof.Rows.callWith_builtin1 (PyProof.Rows.args_cons ?_ rfl) rfl rfl
  refine Call_ (ld_blt I hg2 hm2 boot_set ?_)
  refine PyProof.Rows.callWith_type1 (PyProof.Rows.args_cons (thn (h.go pins s I) fun v s1 ⟨x, H1, I1, r1, l, xs, e1, hq, hl, q1⟩ => PyProof.Rows.args_nil ?_) na) na rfl
  subst e1
  cases r1
  have fin : ∀ (us : List Value), Vals (xs.map V.str) us → (s1.heap.IsList l us.toArray ∨ s1.heap.IsTuple l us.toArray) →
      wpAny (model X.prog X.w) X.A (call (.type "set") [.ref l]) (fun v s₂ => wpAny (model X.prog X.w) X.A (spliced (backTo pos (starEach [] X.env))) (fun vs s₂ => wpAny (model X.prog X.w) X.A (call (.builtin "len") (v :: vs)) (EP X pins σ Q) X.xe s₂) X.xe s₂) X.xe s1 := fun us r hseq => by
    refine make_set (I1.ok.hd hc) hseq (by simpa using strsAre_of r) hl fun h' tk hS hk => ?_
    refine PyProof.Rows.args_nil ?_
    obtain ⟨o, es, ep, t, ho, hex, hd, _, _, _, hf, hn⟩ := hS
    have I2 : Inv X pins σ H1 { s1 with heap := h', toks := tk } := I1.kept fun b o e => hk b o (Heap.lt_size e) e
    have hcn := cnt_le xs xs.length
    refine call_len_set ho hex hd hf (by rw [hn]; omega) ⟨.int (cnt xs xs.length), H1, I2.tok _, ⟨_, by rw [hn]⟩, q1⟩
  rcases hq with hq | hq
  · obtain ⟨us, r, pl, hz⟩ := I1.list hq
    exact fin us r (.inl pl.isList)
  · obtain ⟨us, r, pl, hz⟩ := I1.tuple hq
    exact fin us r (.inr pl)
end
end My

namespace My
open PySem PySem.Spec PyProof.Rows L2
/-! ### sets of texts whose table rises: they can be walked -/
def txOf (e : Int × Value) : Str := match e.2 with | .str x _ => x | _ => Str.empty
def GoodT (w : World) (e : Int × Value) : Prop := ∃ x tk, e.2 = Value.str x tk ∧ e.1 = hashStr w x
/-- the set at a: the texts S, n of them -/
def SetT (w : World) (h : Heap) (a : Addr) (S : Str → Bool) (n : Nat) : Prop :=
  ∃ o es ep t, (h.get? a = some o ∧ o.ExactSet ∧ o.data = .set es ep t) ∧ ((∀ e ∈ es.toList, GoodT w e) ∧ (es.toList.map txOf).Nodup ∧ ∀ k, S k = true ↔ k ∈ es.toList.map txOf) ∧
    (es.size < scanBound ∧ t.fits es.size = true ∧ es.size = n) ∧ Ris t.place.toList ∧ (w.params.followText "set-order" = true ∨ t.led = true)
section
variable {P : Program} {w : World} {h h' : Heap} {a : Addr} {S : Str → Bool} {n : Nat}
theorem goodT_elems {l : List (Int × Value)} (g : ∀ e ∈ l, GoodT w e) : ElemsOf (PySem.strKind P w) l := fun e he => by
  obtain ⟨x, tk, h1, h2⟩ := g e he
  exact ⟨⟨x, by rw [h1]; exact strKind_is P w x tk, h2⟩, by rw [h1] <;> rfl⟩
theorem goodT_is {e : Int × Value} (g : GoodT w e) (k : Str) : (PySem.strKind P w).is k e.2 = true ↔ txOf e = k := by
  obtain ⟨x, tk, h1, _⟩ := g
  unfold txOf
  rw [h1]
  show ((x == k) = true) ↔ x = k
  exact beq_iff_eq
theorem goodT_mem {l : List (Int × Value)} (g : ∀ e ∈ l, GoodT w e) (k : Str) : k ∈ l.map txOf ↔ ∃ e ∈ l, (PySem.strKind P w).is k e.2 = true := by
  rw [List.mem_map]
  exact ⟨fun ⟨e, he, q⟩ => ⟨e, he, (goodT_is (P := P) (g e he) k).2 q⟩, fun ⟨e, he, q⟩ => ⟨e, he, (goodT_is (P := P) (g e he) k).1 q⟩⟩
theorem SetT.setOf (R : SetT w h a S n) : h.SetOf (PySem.strKind P w) a S n := by
  obtain ⟨o, es, ep, t, ⟨ho, hx, hd⟩, ⟨g, nd, hm⟩, ⟨hb, hf, hn⟩, _⟩ := R
  exact ⟨o, es, ep, t, ho, hx, hd, goodT_elems g, fun k => (hm k).trans (goodT_mem (P := P) g k), hb, hf, hn⟩
theorem SetT.at (R : SetT w h a S n) (k : ∀ o, h.get? a = some o → h'.get? a = some o) : SetT w h' a S n := by
  obtain ⟨o, es, ep, t, ⟨ho, r1⟩, r2⟩ := R
  exact ⟨o, es, ep, t, ⟨k o ho, r1⟩, r2⟩
theorem SetT.congr {S' : Str → Bool} {m : Nat} (R : SetT w h a S n) (e : ∀ k, S' k = S k) (em : m = n) : SetT w h a S' m := by
  rw [funext e, em]; exact R
end
section
variable {P : Program} {w : World} {A : Around} {E : Value → Shared → Prop} {s : Shared} {a : Addr} {S : Str → Bool} {n : Nat}
/-- the end of an insertion: stored, and laid anew where the table is too full -/
theorem setT_tail {g : Bool → Sem Unit} (hg : ∀ (b : Bool) (s₁ : Shared) (Q' : Unit → Shared → Prop), Q' () s₁ → wpAny (model P w) A (g b) Q' E s₁)
    {o : Obj} {es : Array (Int × Value)} {ep : Nat} {t : SetTable} (ho : s.heap.get? a = some o) (hex : o.ExactSet) (hd : o.data = .set es ep t)
    {es1 : Array (Int × Value)} {t2 : SetTable} {S' : Str → Bool} (g1 : ∀ e ∈ es1.toList, GoodT w e) (nd1 : (es1.toList.map txOf).Nodup) (m1 : ∀ k, S' k = true ↔ k ∈ es1.toList.map txOf)
    (hb1 : es1.size < scanBound) (hf2 : t2.fits es1.size = true) (hr : Ris t2.place.toList) (hl : w.params.followText "set-order" = true ∨ t2.led = true) {wasDummy : Bool} {R : Option Bool → Shared → Prop}
    (hR : ∀ h', Heap.SameBut a s.heap h' → SetT w h' a S' es1.size → R (some true) { s with heap := h' }) :
    wpAny (model P w) A (do
        storeSet a es1 t2
        if (!wasDummy && t2.tooFull) = true then do
            g (relayAll t2 es1 (SetTable.grown es1.size)).2.2
            storeSet a (relayAll t2 es1 (SetTable.grown es1.size)).1 (relayAll t2 es1 (SetTable.grown es1.size)).2.1
            pure (some true)
          else pure (some true)) R E s := by
  refine wpAny_bind (wpAny_storeSet_of ho hd ?_ (fits_of_scanBound hb1))
  have at1 := store_at (es' := es1) (t' := t2) ho hd
  have sb := Heap.SameBut.update s.heap a (Obj.putSet es1 t2)
  split
  · have p1 := relayAll_perm t2 es1 (SetTable.grown es1.size)
    have p2 := relayAll_fits t2 es1 (SetTable.grown es1.size)
    have p3 := relayAll_ris t2 es1 (SetTable.grown es1.size)
    have p4 := relayAll_led t2 es1 (SetTable.grown es1.size)
    generalize relayAll t2 es1 (SetTable.grown es1.size) = Z at p1 p2 p3 p4 ⊢
    obtain ⟨es2, t3, gave⟩ := Z
    dsimp only at p1 p2 p3 p4 ⊢
    have sz : es2.size = es1.size := by rw [← Array.length_toList, p1.length_eq, Array.length_toList]
    refine wpAny_bind (hg _ _ _ (wpAny_bind (wpAny_storeSet_of at1 rfl ?_ (fits_of_scanBound (by rw [sz]; exact hb1)))))
    have at2 := store_at (es' := es2) (t' := t3) at1 rfl
    refine wpAny_pure (hR _ (sb.trans (Heap.SameBut.update _ a _)) ?_)
    exact ⟨_, es2, _, t3, ⟨at2, hex, rfl⟩, ⟨fun e he => g1 e (p1.mem_iff.mp he), (p1.map txOf).nodup_iff.mpr nd1, fun k => (m1 k).trans (p1.map txOf).mem_iff.symm⟩, ⟨by rw [sz]; exact hb1, p2, sz⟩, p3,
      hl.imp id fun z => by rw [p4]; exact z⟩
  · exact wpAny_pure (hR _ sb ⟨_, es1, _, t2, ⟨at1, hex, rfl⟩, ⟨g1, nd1, m1⟩, ⟨hb1, hf2, rfl⟩, hr, hl⟩)
theorem setT_add {k : Str} {tk : Tok} {Q : Bool → Shared → Prop} (R : SetT w s.heap a S n) (room : n + 1 < scanBound)
    (hQ : ∀ h', Heap.SameBut a s.heap h' → SetT w h' a (fun j => S j || decide (j = k)) (if S k = true then n else n + 1) → Q (!S k) { s with heap := h' }) :
    wpAny (model P w) A (setAddHashed a (.str k tk) ((PySem.strKind P w).hash k)) Q E s := by
  obtain ⟨o, es, ep, t, ⟨ho, hex, hd⟩, ⟨g, nd, hm⟩, ⟨hb, hf, hn⟩, hr, hl⟩ := R
  have hkey : (PySem.strKind P w).is k (.str k tk) = true := strKind_is P w k tk
  have hsc : (Value.str k tk).scannable = true := rfl
  have hel : ElemsOf (PySem.strKind P w) es.toList := goodT_elems g
  unfold setAddHashed setAddHashedIn
  refine wpAny_holding (wpAny_bind (wpAny_setState_of ho hd hf ?_))
  dsimp only
  rw [byScan_of hsc hb hel]
  simp only [↓reduceIte]
  unfold setAddByScan
  refine wpAny_bind (wpAny_bind (wpAny_rule (wpAny_bind (wpAny_setScan_of hkey ho hd hf hel ?_))))
  cases hfi : List.findIdx? (fun e => (PySem.strKind P w).is k e.2) es.toList with
  | some j =>
    dsimp only
    obtain ⟨hj, pj, _⟩ := List.findIdx?_eq_some_iff_getElem.mp hfi
    have yes : S k = true := (hm k).2 ((goodT_mem (P := P) g k).2 ⟨es.toList[j], List.getElem_mem hj, pj⟩)
    refine wpAny_pure (wpAny_pure ?_)
    have q := hQ s.heap (Heap.SameBut.refl a s.heap) ⟨o, es, ep, t, ⟨ho, hex, hd⟩, ⟨g, nd, fun i => by
      rw [Bool.or_eq_true, decide_eq_true_eq, ← hm i]
      exact ⟨fun z => z.elim id (fun e => e ▸ yes), .inl⟩⟩, ⟨hb, hf, by rw [if_pos yes]; exact hn⟩, hr, hl⟩
    rw [yes] at q
    exact q
  | none =>
    dsimp only
    have new : k ∉ es.toList.map txOf := fun z => by
      obtain ⟨e, he, q⟩ := (goodT_mem (P := P) g k).1 z
      have c := List.findIdx?_eq_none_iff.mp hfi e he
      rw [q] at c
      cases c
    have no : S k = false := by
      cases q : S k with
      | false => rfl
      | true => exact absurd ((hm k).1 q) new
    have hgw : ∀ (b : Bool) {s₁ : Shared} {Q' : Unit → Shared → Prop}, Q' () s₁ → wpAny (model P w) A (match b with | true => rule "set.scan.the-table-gave-way" | false => pure ()) Q' E s₁ :=
      fun b s₁ Q' q => by cases b <;> first | exact wpAny_pure q | exact wpAny_rule q
    have p1 := layNew_perm t es ((PySem.strKind P w).hash k) (.str k tk)
    have p2 := layNew_fits t es ((PySem.strKind P w).hash k) (.str k tk)
    have p3 := layNew_ris t es ((PySem.strKind P w).hash k) (.str k tk) hr
    have p4 := layNew_led t es ((PySem.strKind P w).hash k) (.str k tk)
    generalize layNew t es ((PySem.strKind P w).hash k) (.str k tk) = Z at p1 p2 p3 p4 ⊢
    obtain ⟨es1, t1, wasDummy, gave⟩ := Z
    dsimp only at p1 p2 p3 p4 ⊢
    rw [Array.toList_push] at p1
    have pc : es1.toList.Perm (((PySem.strKind P w).hash k, Value.str k tk) :: es.toList) := p1.trans (List.perm_append_singleton _ _)
    have pk : (es1.toList.map txOf).Perm (k :: es.toList.map txOf) := pc.map txOf
    have g1 : ∀ e ∈ es1.toList, GoodT w e := fun e he => by
      rcases List.mem_cons.mp (pc.mem_iff.mp he) with z | z
      · rw [z]; exact ⟨k, tk, rfl, rfl⟩
      · exact g e z
    have nd1 : (es1.toList.map txOf).Nodup := pk.nodup_iff.mpr (List.nodup_cons.mpr ⟨new, nd⟩)
    have m1 : ∀ i, (S i || decide (i = k)) = true ↔ i ∈ es1.toList.map txOf := fun i => by
      rw [Bool.or_eq_true, decide_eq_true_eq, hm i, pk.mem_iff, List.mem_cons]
      exact Or.comm
    have sz : es1.size = n + 1 := by rw [← Array.length_toList, pc.length_eq, List.length_cons, Array.length_toList, hn]
    have led1 : w.params.followText "set-order" = true ∨ t1.led = true := hl.imp id fun z => by rw [p4]; exact z
    have fin : ∀ h', Heap.SameBut a s.heap h' → SetT w h' a (fun j => S j || decide (j = k)) es1.size → Q true { s with heap := h' } := fun h' sb r => by
      have q := hQ h' sb
      rw [no] at q
      rw [sz] at r
      exact q r
    refine wpAny_bind (hgw _ ?_)
    split
    · refine wpAny_bind ?_
      rw [hashByValue_scannable 8 hsc]
      refine wpAny_pure (setT_tail ?_ ho hex hd g1 nd1 m1 (by rw [sz]; exact room) ?_ ?_ ?_ ?_)
      · intro b s₁ Q' q; cases b <;> first | exact wpAny_pure q | exact wpAny_rule q
      · first | (split <;> first | exact p2 | exact SetTable.fits_plain_off p2) | exact p2
      · first | (split <;> exact p3) | exact p3
      · first | (split <;> exact led1) | exact led1
      · intro h' sb r; dsimp only; exact wpAny_pure (fin h' sb r)
    · refine wpAny_bind (wpAny_pure ?_)
      simp only [↓reduceIte]
      refine setT_tail ?_ ho hex hd g1 nd1 m1 (by rw [sz]; exact room) p2 p3 led1 ?_
      · intro b s₁ Q' q; cases b <;> first | exact wpAny_pure q | exact wpAny_rule q
      · intro h' sb r; dsimp only; exact wpAny_pure (fin h' sb r)
/-! ### sorted -/
theorem txs_of : ∀ (l : List Value), (∀ v ∈ l, ∃ x tk, v = Value.str x tk) → StrsAre l (l.map fun v => txOf (0, v))
  | [], _ => .nil
  | v :: l, h => by
    obtain ⟨x, tk, rfl⟩ := h v List.mem_cons_self
    exact .cons x tk (txs_of l fun u hu => h u (List.mem_cons_of_mem _ hu))
theorem sorted_setT {Q : Value → Shared → Prop} (R : SetT w s.heap a S n) (hh : A.handled = none) (h64 : n < 64)
    (hQ : ∀ s' p (out : Array Value) (c : Nat) (ys : List Str), (∀ b o, s.heap.get? b = some o → s'.heap.get? b = some o) → s'.gens = s.gens → s'.os = s.os → s.heap.objs.size ≤ p →
      s'.heap.get? p = some (seqObj "list" out c) → StrsAre out.toList ys → sortedS ys = true → ys.Nodup → (∀ k, k ∈ ys ↔ S k = true) → ys.length = n → Q (.ref p) s') :
    wpAny (model P w) A (call (.builtin "sorted") [.ref a]) Q E s := by
  obtain ⟨o, es, ep, t, ⟨ho, hex, hd⟩, ⟨g, nd, hm⟩, ⟨hb, hf, hn⟩, hr, hl⟩ := R
  refine Calls.call_function_entry kind_sorted plain_sorted entry_sorted (args_sorted1 _) ?_
  unfold Builtin.«sorted»
  refine wpAny_bind (m := checkCount "sorted" 1 1 _) (wpAny_pure ?_)
  refine wpAny_bind (collect_set (A := A.in1) hh ⟨o, ho, hex.1, hd⟩ hf hb hr hl fun s1 vs k1 hz g1 o1 pm => ?_)
  have hvl : vs.length = n := by rw [pm.length_eq, List.length_map, Array.length_toList]; exact hn
  have hI : StrsAre vs (vs.map fun v => txOf (0, v)) := txs_of vs fun v hv => by
    obtain ⟨e, he, q⟩ := List.mem_map.mp (pm.mem_iff.mp hv)
    obtain ⟨x, tk, h1, _⟩ := g e he
    exact ⟨x, tk, by rw [← q]; exact h1⟩
  have pk : (vs.map fun v => txOf (0, v)).Perm (es.toList.map txOf) := by
    have q := pm.map fun v => txOf (0, v)
    rw [List.map_map] at q
    exact q
  refine wpAny_bind (wpAny_newList ?_ (by rw [hvl, sizeLine_eq]; omega))
  have hoL : (s1.heap.push (seqObj "list" vs.toArray 0)).get? s1.heap.objs.size = some (seqObj "list" vs.toArray 0) := Heap.get?_push_size _ rfl
  refine wpAny_bind (wpAny_holding (wpAny_call_entry slot_list_sort ⟨_, hoL, rfl⟩ entry_list_sort (list_sort_treeK strKind_oneLt hoL hI.keysOf (fun v1 v2 r e => keyKind_strs (by rw [← e]; exact hI)) (by rw [hvl]; exact h64) fun st hp hst => ⟨_, rfl, ?_⟩) (args_list_sort _)))
  obtain ⟨ys, h1, h2, h3⟩ := sorted_out_str hI hp hst
  generalize Array.map (fun x => x.snd) (arrOf st) = out at h1 ⊢
  have pn : ys.Perm (es.toList.map txOf) := h2.trans pk
  obtain ⟨c, hc⟩ := sortedHeap_at (vs := vs) (out := out) hoL
  refine wpAny_pure ⟨_, rfl, hQ _ s1.heap.objs.size out c ys (fun b u e => ?_) g1 o1 hz hc h1 h3 (pn.nodup_iff.mpr nd) (fun k => by rw [pn.mem_iff, ← hm k]) ?_⟩
  · have q := k1 b u e
    have hlt := Heap.lt_size q
    show (sortedHeap (s1.heap.push (seqObj "list" vs.toArray 0)) s1.heap.objs.size vs out).get? b = some u
    rw [sortedHeap_old (Nat.ne_of_lt hlt) (by rw [size_push']; exact Nat.lt_succ_of_lt hlt)]
    exact Heap.get?_push_of_some _ q
  · rw [pn.length_eq, List.length_map, Array.length_toList]; exact hn
end
end My

namespace My
open PySem PySem.Spec PyProof.Rows L2
section
variable {P : Program} {w : World} {A : Around} {R : Result → Shared → Prop} {I S : Addr} {fp wr : List Addr} {G : Array GenState → Array GenState → Prop} {n : Nat} {Pi : Nat → Value → Prop} {St : Nat → Shared → Prop}
abbrev HoldT (w : World) (h : Heap) (S : Addr) (xs : List Str) (i : Nat) : Prop := SetT w h S (fun k => (xs.take i).any (· == k)) (cnt xs i)
theorem setT_turns (W : WalksS P w A.in1 I fp wr G n Pi St) (nS : S ∉ fp) (xs : List Str) (hn : xs.length = n) (h64 : n ≤ 1000) (hv : ∀ i v, Pi i v → ∃ t, v = .str (xs.getD i Str.empty) t) :
    ∀ (m i : Nat) (z : Shared), i + m = n → St i z → HoldT w z.heap S xs i →
      (∀ z', Moved (S :: wr) G z z' → HoldT w z'.heap S xs n → R (.ok (.ret .none)) z') → codeAny (model P w) A (.builtin "set.update.loop" ⟨[.ref S, .ref I], []⟩) R z := by
  have nSw : S ∉ wr := fun h => nS (W.sub _ h)
  have more : ∀ b ∈ wr, b ∈ S :: wr := fun b hb => List.mem_cons_of_mem _ hb
  intro m
  induction m with
  | zero =>
    intro i z hi st hS k
    have ei : i = n := by omega
    subst ei
    refine codeAny_builtin PyProof.Rows.F.entry_set_update_loop ?_
    rw [Around.under_plainId PyProof.Rows.F.plain_set_update_loop _]
    show wpAny _ A.in1 (pyNext (.ref I) >>= _) _ _ z
    refine wpAny_bind (W.done z _ _ st fun z' mv => ?_)
    show wpAny _ A.in1 (ret Value.none) _ _ z'
    exact wpAny_pure (k z' (mv.mono more) (SetT.at hS fun o ho => mv.heap S _ nSw ho))
  | succ m ih =>
    intro i z hi st hS k
    have hlt : i < n := by omega
    refine codeAny_builtin PyProof.Rows.F.entry_set_update_loop ?_
    rw [Around.under_plainId PyProof.Rows.F.plain_set_update_loop _]
    show wpAny _ A.in1 (pyNext (.ref I) >>= _) _ _ z
    refine wpAny_bind (W.item i z _ _ hlt st fun v z' hP st' mv => ?_)
    obtain ⟨t, rfl⟩ := hv i v hP
    have hS' : HoldT w z'.heap S xs i := SetT.at hS fun o ho => mv.heap S _ nSw ho
    show wpAny _ A.in1 (holding [Value.str (xs.getD i Str.empty) t] (setAdd S (.str (xs.getD i Str.empty) t)) >>= _) _ _ z'
    refine wpAny_bind (wpAny_holding ?_)
    unfold setAdd
    refine wpAny_holding (wpAny_bind ((PySem.strKind P w).pyHash (k := xs.getD i Str.empty) (strKind_is _ _ _ _) ?_))
    refine setT_add (s := { z' with toks := z'.toks + 1 }) hS' (by have := cnt_le xs i; unfold scanBound; omega) fun h' only hS2 => ?_
    have hSi : HoldT w h' S xs (i + 1) := by
      refine hS2.congr (fun y => Eq.symm ?_) rfl
      show ((xs.take i).any (· == y) || decide (y = xs.getD i Str.empty)) = (xs.take (i + 1)).any (· == y)
      rw [take_one (by omega), List.any_append]
      have e : [xs.getD i Str.empty].any (· == y) = decide (y = xs.getD i Str.empty) := by
        by_cases e : y = xs.getD i Str.empty
        · subst e; simp
        · have hb : (xs.getD i Str.empty == y) = false := beq_eq_false_iff_ne.mpr fun q => e q.symm
          rw [decide_eq_false e]
          show ((xs.getD i Str.empty == y) || false) = false
          rw [hb]; rfl
      rw [e]
    refine wpAny_pure ⟨plainId_quiet PyProof.Rows.F.plain_set_update_loop _, ih (i + 1) _ (by omega) (W.frame _ z' _ _ st' (Nat.le_succ _) fun b hb o e => ?_) hSi fun z2 mv2 hS3 => ?_⟩
    · rw [only.2 b fun q : b = S => nS (by rw [← q]; exact hb)]; exact e
    · refine k z2 (Moved.trans W.gtrans ((mv.mono more).then_heap (Nat.le_succ _) fun b o hb e => ?_) mv2) hS3
      rw [only.2 b fun q : b = S => hb (by rw [q]; exact List.mem_cons_self)]; exact e
end
section
variable {P : Program} {w : World} {A : Around} {E : Value → Shared → Prop} {z : Shared}
set_option maxHeartbeats 4000000 in
theorem make_setT {a : Addr} {us : Array Value} {xs : List Str} {Q : Value → Shared → Prop} (calm : A.handled = none) (hseq : z.heap.IsList a us ∨ z.heap.IsTuple a us) (hi : StrsAre us.toList xs) (h1000 : xs.length ≤ 1000)
    (k : ∀ (h' : Heap) (tk : Nat), HoldT w h' z.heap.objs.size xs xs.length → (∀ b o, b < z.heap.objs.size → z.heap.get? b = some o → h'.get? b = some o) → Q (.ref z.heap.objs.size) { z with heap := h', toks := tk }) :
    wpAny (model P w) A (call (.type "set") [.ref a]) Q E z := by
  obtain ⟨c, tl, hmro⟩ := PySem.F.called_set.mro
  have hmade := PySem.F.called_set.made
  have hsub := PySem.F.called_set.sub
  have hsz : xs.length = us.size := by rw [← StrsAre.len_eq hi, Array.length_toList]
  have hval : ∀ (i : Nat) (v : Value), us[i]? = some v → ∃ t, v = .str (xs.getD i Str.empty) t := fun i v hv => SS.strs_at hi i v (by rw [Array.getElem?_toList]; exact hv)
  refine wpAny_call (codeAny_of_tree ?_)
  show wpAny _ _ (callAny (.type "set") _) _ _ _
  refine wpAny_pure ⟨Code.quiet_builtin _ (by decide +kernel), codeAny_builtin PySem.F.entry_type_call ?_⟩
  rw [Around.under_plain (weight_type_call_type "set" [.ref a] []) rfl]
  have t1 := PySem.F.called_set.notType
  have t2 := PySem.F.called_set.canCreate
  have t3 := PySem.F.typeCall_set_1 (.ref a)
  repeat (any_goals (first | assumption | wp_step))
  refine codeAny_mono (code_set_led1 (.ref a) (E := E) (Q₁ := fun ob z1 => ∃ led : Bool, led = (!w.params.followText "set-order") ∧ ob = .ref z.heap.objs.size ∧ z1 = { z with heap := z.heap.push (set0 led) }) ⟨_, rfl, rfl, rfl⟩) fun r z1 hr => ?_
  cases r with
  | error e => exact hr
  | ok fl =>
    cases fl with
    | next => exact hr.elim
    | brk => exact hr.elim
    | cont => exact hr.elim
    | ret ob =>
      obtain ⟨led, hled, rfl, rfl⟩ := hr
      have hS : (z.heap.push (set0 led)).get? z.heap.objs.size = some (set0 led) := Heap.get?_push_size _ rfl
      have hT : Shared.TypeIs { z with heap := z.heap.push (set0 led) } (.ref z.heap.objs.size) "set" := ⟨_, hS, rfl⟩
      have hli := PySem.F.called_set.init.lookup
      have hbi := PySem.F.called_set.init.bind (.ref z.heap.objs.size)
      repeat (any_goals (first | assumption | wp_step))
      refine codeAny_mono (codeAny_call_builtin (R := wants (fun r z2 => r = .none ∧ ∃ h' tk, z2 = { z with heap := h', toks := tk } ∧ HoldT w h' z.heap.objs.size xs xs.length ∧
          (∀ b o, b < z.heap.objs.size → z.heap.get? b = some o → h'.get? b = some o)) E) PySem.F.called_set.init.plain PySem.F.entry_set_init (check_set_init_1 hT ?_)) fun r2 z2 hr2 => ?_
      · have fin : ∀ (T : String) (ob0 : Obj), a < z.heap.objs.size → ∀ z3 : Shared, Moved (z.heap.objs.size :: [(z.heap.push (set0 led)).objs.size]) (fun a b => b = a) { z with heap := (z.heap.push (set0 led)).push ob0 } z3 →
            HoldT w z3.heap z.heap.objs.size xs us.size → wants (fun r z2 => r = .none ∧ ∃ h' tk, z2 = { z with heap := h', toks := tk } ∧ HoldT w h' z.heap.objs.size xs xs.length ∧
              (∀ b o, b < z.heap.objs.size → z.heap.get? b = some o → h'.get? b = some o)) E (.ok (.ret .none)) z3 := by
          intro T ob0 ha z3 mv hS3
          obtain ⟨h', g', d', tk', os'⟩ := z3
          have e1 : g' = z.gens := mv.gens
          have e2 : d' = z.drawn := mv.drawn
          have e3 : os' = z.os := mv.os
          subst e1; subst e2; subst e3
          refine ⟨rfl, h', tk', rfl, by rw [hsz]; exact hS3, fun b o hb e => mv.heap b o (fun q => ?_) (Heap.get?_push_of_some _ (Heap.get?_push_of_some _ e))⟩
          rcases List.mem_cons.mp q with q | q
          · exact absurd q (Nat.ne_of_lt hb)
          · have q := List.mem_singleton.mp q
            rw [Heap.size_push] at q
            exact absurd q (Nat.ne_of_lt (Nat.lt_succ_of_lt hb))
        have calm3 : A.in1.in1.in1.handled = none := by simp [calm]
        have start : ∀ ob0 : Obj, HoldT w ((z.heap.push (set0 led)).push ob0) z.heap.objs.size xs 0 := fun ob0 =>
          ⟨_, #[], 0, _, ⟨Heap.get?_push_of_some _ hS, ⟨rfl, rfl, rfl⟩, rfl⟩, ⟨fun e he => by simp at he, by simp, fun k => by simp⟩, ⟨by decide, by rfl, rfl⟩, List.Pairwise.nil, by
            show _ ∨ led = true
            rw [hled]
            cases w.params.followText "set-order"
            · exact .inr rfl
            · exact .inl rfl⟩
        rcases hseq with hl | hl
        · obtain ⟨⟨oc, od, oda, osl⟩, hol, hcl, nl, hdl⟩ := hl
          simp only at hcl hdl
          subst hcl; subst hdl
          have hlt : a < z.heap.objs.size := Heap.lt_size hol
          have hol' := Heap.get?_push_of_some (set0 led) hol
          have hsls := PySem.F.sub_list_set
          have hslf := PySem.F.sub_list_frozenset
          have hne : (Value.type "list" == Value.type "dict") = false := by decide
          have hl1 : (z.heap.push (set0 led)).IsList a us := ⟨_, hol', rfl, nl, rfl⟩
          unfold Builtin.«set.__init__» noKeywords Builtin.Frozenset.updateFrom
          generalize hPI : pyIter = PI
          wp_walk
          subst hPI
          refine wpAny_pyIter_list hl1 (wpAny_bind (wpAny_runValue ?_))
          have n1 : a ≠ (z.heap.push (set0 led)).objs.size := by rw [Heap.size_push]; exact Nat.ne_of_lt (Nat.lt_succ_of_lt hlt)
          have n2 : z.heap.objs.size ∉ [(z.heap.push (set0 led)).objs.size, a] := by
            rw [Heap.size_push]; simp only [List.mem_cons, List.not_mem_nil, or_false, not_or]; exact ⟨Nat.ne_of_lt (Nat.lt_succ_self _), Nat.ne_of_gt hlt⟩
          refine setT_turns ((Walks.list calm3 _ a n1 us).toS) n2 xs hsz (by omega) hval us.size 0 _ (by omega) ⟨⟨_, Heap.get?_push_size _ rfl, rfl, rfl⟩, (hl1.push _)⟩ (start _) fun z3 mv hS3 => ?_
          obtain ⟨_, h', tk, rfl, q1, q2⟩ := fin "list" _ hlt z3 mv hS3
          show wpAny _ _ _ _ _ _
          refine wpAny_pure ?_
          show wpAny _ _ (ret Value.none) _ _ _
          exact wpAny_pure ⟨rfl, h', tk, rfl, q1, q2⟩
        · obtain ⟨⟨oc, od, oda, osl⟩, hol, hcl, nl, hdl⟩ := hl
          simp only at hcl hdl
          subst hcl; subst hdl
          have hlt : a < z.heap.objs.size := Heap.lt_size hol
          have hol' := Heap.get?_push_of_some (set0 led) hol
          have hsls := PySem.F.sub_tuple_set
          have hslf := PySem.F.sub_tuple_frozenset
          have hne : (Value.type "tuple" == Value.type "dict") = false := by decide
          have hl1 : (z.heap.push (set0 led)).IsTuple a us := ⟨_, hol', rfl, nl, rfl⟩
          unfold Builtin.«set.__init__» noKeywords Builtin.Frozenset.updateFrom
          generalize hPI : pyIter = PI
          wp_walk
          subst hPI
          refine wpAny_pyIter_tuple hl1 (wpAny_bind (wpAny_runValue ?_))
          have n1 : a ≠ (z.heap.push (set0 led)).objs.size := by rw [Heap.size_push]; exact Nat.ne_of_lt (Nat.lt_succ_of_lt hlt)
          have n2 : z.heap.objs.size ∉ [(z.heap.push (set0 led)).objs.size, a] := by
            rw [Heap.size_push]; simp only [List.mem_cons, List.not_mem_nil, or_false, not_or]; exact ⟨Nat.ne_of_lt (Nat.lt_succ_self _), Nat.ne_of_gt hlt⟩
          refine setT_turns ((Walks.tuple calm3 _ a n1 us).toS) n2 xs hsz (by omega) hval us.size 0 _ (by omega) ⟨⟨_, Heap.get?_push_size _ rfl, rfl, rfl⟩, (hl1.push _)⟩ (start _) fun z3 mv hS3 => ?_
          obtain ⟨_, h', tk, rfl, q1, q2⟩ := fin "tuple" _ hlt z3 mv hS3
          show wpAny _ _ _ _ _ _
          refine wpAny_pure ?_
          show wpAny _ _ (ret Value.none) _ _ _
          exact wpAny_pure ⟨rfl, h', tk, rfl, q1, q2⟩
      · cases r2 with
        | error e => exact hr2
        | ok fl2 =>
          cases fl2 with
          | next => exact hr2.elim
          | brk => exact hr2.elim
          | cont => exact hr2.elim
          | ret r =>
            obtain ⟨rfl, h', tk, rfl, hS', hk'⟩ := hr2
            repeat (any_goals (first | assumption | wp_step))
            exact k _ _ hS' hk'
end
section
variable {X : Cx} {a : Expr} {σ : L2.St} {H : Hp} {Q : VK} {p p2 q pos : Pos}
theorem any_mem (xs : List Str) (k : Str) : (xs.any (· == k)) = true ↔ k ∈ xs := by
  rw [List.any_eq_true]
  exact ⟨fun ⟨x, h, e⟩ => by rw [← beq_iff_eq.mp e]; exact h, fun h => ⟨k, h, beq_self_eq_true k⟩⟩
/-- sorted(set(xs)), xs a list or tuple of texts -/
theorem e_sortedSet (hm : X.mg "sorted" = none) (hm2 : X.mg "set" = none) (h : WE X a σ H fun x H1 => ∃ l, ∃ xs : List Str, x = .ref l ∧ (SqL X.K H1 l (xs.map V.str) ∨ SqT X.K H1 l (xs.map V.str)) ∧ xs.length < 64 ∧
      ∀ (ys : List Str) (t : Addr), sortedS ys = true → ys.Nodup → (∀ k, k ∈ ys ↔ k ∈ xs) → ys.length = cnt xs xs.length → H1 t = none → Q (.ref t) (upd H1 t (.lst (ys.map V.str))))
    (hc : X.calm = true := by rfl) (hg : Gl X "sorted" := by rfl) (hg2 : Gl X "set" := by rfl) (na : starEach [a] X.env = (false, eval a X.env) :: starEach [] X.env := by rfl) :
    WE X (.Call (.Name "sorted" p) [.Call (.Name "set" p2) [a] [] q] [] pos) σ H Q := by
  constructor
  intro pins s I
  refine Call_ (ld_blt I hg hm PyProof.Rows.boot_sorted ?_)
  refine PyProof.Rows.callWith_builtin1 (PyProof.Rows.args_cons ?_ rfl) rfl rfl
  refine Call_ (ld_blt I hg2 hm2 boot_set ?_)
  refine PyProof.Rows.callWith_type1 (PyProof.Rows.args_cons (thn (h.go pins s I) fun v s1 ⟨x, H1, I1, r1, l, xs, e1, hq, hl, q1⟩ => PyProof.Rows.args_nil ?_) na) na rfl
  subst e1
  cases r1
  have fin : ∀ (us : List Value), Vals (xs.map V.str) us → (s1.heap.IsList l us.toArray ∨ s1.heap.IsTuple l us.toArray) →
      wpAny (model X.prog X.w) X.A (call (.type "set") [.ref l]) (fun v s₂ => wpAny (model X.prog X.w) X.A (spliced (backTo pos (starEach [] X.env))) (fun vs s₂ => wpAny (model X.prog X.w) X.A (call (.builtin "sorted") (v :: vs)) (EP X pins σ Q) X.xe s₂) X.xe s₂) X.xe s1 := fun us r hseq => by
    refine make_setT (I1.ok.hd hc) hseq (by simpa using strsAre_of r) (by omega) fun h' tk hS hk => ?_
    refine PyProof.Rows.args_nil ?_
    have I2 : Inv X pins σ H1 { s1 with heap := h', toks := tk } := I1.kept fun b o e => hk b o (Heap.lt_size e) e
    have hcn := cnt_le xs xs.length
    refine sorted_setT hS (I2.ok.hd hc) (by omega) fun s' t out c ys k g o hp ho hi hs hnd hmem hlen => ?_
    have hlen2 : (ys.map V.str).length ≤ sizeLine := by rw [List.length_map, hlen, sizeLine_eq]; omega
    have hn : H1 t = none := I2.hok.fresh hp
    have J : Inv X pins σ (upd H1 t (.lst (ys.map V.str))) { { s1 with heap := h', toks := tk } with heap := s'.heap, gens := s'.gens, drawn := s'.drawn, toks := s'.toks } :=
      I2.call (ch := []) (Un.laid k hp hn) (I2.hok.laid k hp ⟨hlen2, out.toList, c, vals_of_strs hi, ho⟩) (by rw [g]; exact I2.bare) (fun _ z => nomatch z)
    have e : s' = { { s1 with heap := h', toks := tk } with heap := s'.heap, gens := s'.gens, drawn := s'.drawn, toks := s'.toks } := by
      cases s'
      cases s1
      cases o
      rfl
    rw [e]
    refine ⟨.ref t, _, J, rfl, q1 ys t hs hnd (fun k => ?_) hlen hn⟩
    rw [hmem k, List.take_length]
    exact any_mem xs k
  rcases hq with hq | hq
  · obtain ⟨us, r, pl, hz⟩ := I1.list hq
    exact fin us r (.inl pl.isList)
  · obtain ⟨us, r, pl, hz⟩ := I1.tuple hq
    exact fin us r (.inr pl)
end
end My

namespace My
open PySem PySem.Spec PyProof.Rows L2
section
variable {X : Cx} {o e : Expr} {σ : L2.St} {H : Hp} {Q : VK} {D : Ends} {pos apos : Pos}
/-- o.pop(e), a list -/
theorem e_pop (h : WE X o σ H fun x H1 => (∃ l xs, x = .ref l ∧ SqL X.K H1 l xs) ∧ WE X e σ H1 fun y H2 => ∃ l xs i k z, x = .ref l ∧ y = .int i ∧ H2 l = some (.lst xs) ∧ -(2 ^ 63) ≤ i ∧ i < 2 ^ 63 ∧ seqIndex? i xs.length = some k ∧ xs[k]? = some z ∧ Q z (upd H2 l (.lst (xs.eraseIdx k))))
    (hbase : attributeBase o "pop" X.env (eval o X.env) = eval o X.env := by rfl)
    (hfew : ((backTo pos (starEach [e] X.env)).all (fun x => !x.1) && (backToKw pos (keywordEach [] X.env)).all (fun x => x.1.isSome) && decide ([e].length + ([] : List Keyword).length + (if ([] : List Keyword).isEmpty then 0 else 1) < 30)) = true := by rfl)
    (hline : (apos.endLine == pos.line) = true := by rfl) (hs : starEach [e] X.env = (false, eval e X.env) :: starEach [] X.env := by rfl) (hplain : (backTo pos (starEach [] X.env)).any (·.1) = false := by rfl) :
    WE X (.Call (.Attribute o "pop" apos) [e] [] pos) σ H Q :=
  toE (pe_bm PySem.F.plainAttrs_list PySem.F.slot_list_pop PySem.F.type_list_pop mt_popAt pE pA hbase hfew hline hs hplain) (WE.mono h fun x H1 ⟨⟨l, xs, e1, hS⟩, k⟩ => by
    subst e1
    exact ⟨.inl ⟨rfl, _, hS⟩, a_cons (WE.mono k fun y H2 ⟨l', xs', i, k', z, a1, a2, a3, a4, a5, a6, a7, q⟩ => a_nil ⟨l', xs', i, k', z, a1, by rw [a2], a3, a4, a5, a6, a7, q⟩) hs⟩)
/-- o.append(e) as a statement -/
theorem s_app (h : WE X o σ H fun x H1 => (∃ l xs, x = .ref l ∧ SqL X.K H1 l xs) ∧ WE X e σ H1 fun y H2 => ∃ l xs, x = .ref l ∧ H2 l = some (.lst xs) ∧ xs.length < sizeLine ∧ D.nx σ (upd H2 l (.lst (xs ++ [y])))) {pos' : Pos}
    (hbase : attributeBase o "append" X.env (eval o X.env) = eval o X.env := by rfl)
    (hfew : ((backTo pos (starEach [e] X.env)).all (fun x => !x.1) && (backToKw pos (keywordEach [] X.env)).all (fun x => x.1.isSome) && decide ([e].length + ([] : List Keyword).length + (if ([] : List Keyword).isEmpty then 0 else 1) < 30)) = true := by rfl)
    (hline : (apos.endLine == pos.line) = true := by rfl) (hs : starEach [e] X.env = (false, eval e X.env) :: starEach [] X.env := by rfl) (hplain : (backTo pos (starEach [] X.env)).any (·.1) = false := by rfl)
    (hsw : swapsWith (.Call (.Attribute o "append" apos) [e] [] pos) none pos'.line X.env = pure false := by rfl) :
    WS X (.Expr (.Call (.Attribute o "append" apos) [e] [] pos) pos') D σ H :=
  s_expr (toE (pe_bm PySem.F.plainAttrs_list PySem.F.slot_list_append PySem.F.type_list_append mt_append pE pA hbase hfew hline hs hplain) (WE.mono h fun x H1 ⟨⟨l, xs, e1, hS⟩, k⟩ => by
    subst e1
    exact ⟨.inl ⟨rfl, _, hS⟩, a_cons (WE.mono k fun y H2 ⟨l', xs', a1, a3, a4, q⟩ => a_nil ⟨l', xs', y, a1, rfl, a3, a4, q⟩) hs⟩)) hsw
/-- min(a, b) -/
theorem e_min {a b : Expr} {p : Pos} (hm : X.mg "min" = none) (k : WE X a σ H fun x H1 => WE X b σ H1 fun y H2 => ∃ i j, x = .int i ∧ y = .int j ∧ Q (.int (if j < i then j else i)) H2) (hc : X.calm = true := by rfl) (hg : Gl X "min" := by rfl)
    (he : starEach [a, b] X.env = (false, eval a X.env) :: starEach [b] X.env := by rfl) (he2 : starEach [b] X.env = (false, eval b X.env) :: starEach [] X.env := by rfl) (hpl : (backTo pos (starEach [b] X.env)).any (·.1) = false := by rfl) :
    WE X (.Call (.Name "min" p) [a, b] [] pos) σ H Q :=
  e_callB (call_min2 hc) hm PyProof.Rows.boot_min (a_cons (WE.mono k fun x H1 k1 => a_cons (WE.mono k1 fun y H2 ⟨i, j, e1, e2, q⟩ => a_nil ⟨i, j, by rw [e1, e2], q⟩) he2) he) hg (by decide) (by decide) he hpl
/-- sorted(e), a list of texts; tuple(e), a list -/
theorem e_sorted {p : Pos} (hm : X.mg "sorted" = none) (k : WE X e σ H fun x H1 => ∃ (a : Addr) (xs : List Str), x = V.ref a ∧ SqL X.K H1 a (xs.map V.str) ∧ xs.length < 64 ∧ ∀ (ys : List Str) (p : Addr), ys.Perm xs → sortedS ys = true → H1 p = none → Q (.ref p) (upd H1 p (.lst (ys.map V.str)))) (hg : Gl X "sorted" := by rfl)
    (he : starEach [e] X.env = (false, eval e X.env) :: starEach [] X.env := by rfl) (hpl : (backTo pos (starEach [] X.env)).any (·.1) = false := by rfl) : WE X (.Call (.Name "sorted" p) [e] [] pos) σ H Q :=
  e_callB cr_sortedS hm PyProof.Rows.boot_sorted (a_cons (WE.mono k fun x H1 ⟨a, xs, e1, r⟩ => a_nil ⟨a, xs, by rw [e1], r⟩) he) hg (by decide) (by decide) he hpl
theorem e_tupL {p : Pos} (hm : X.mg "tuple" = none) (k : WE X e σ H fun x H1 => ∃ a xs, x = .ref a ∧ SqL X.K H1 a xs ∧ ∀ q, H1 q = none → Q (.ref q) (upd H1 q (.tup xs))) (hg : Gl X "tuple" := by rfl)
    (he : starEach [e] X.env = (false, eval e X.env) :: starEach [] X.env := by rfl) (hpl : (backTo pos (starEach [] X.env)).any (·.1) = false := by rfl) : WE X (.Call (.Name "tuple" p) [e] [] pos) σ H Q :=
  e_callT call_tuple_of hm PyProof.Rows.boot_tuple (a_cons (WE.mono k fun x H1 ⟨a, xs, e1, hS, r⟩ => a_nil ⟨a, xs, by rw [e1], .inl ⟨hS, r⟩⟩) he) hg (by decide) (by decide) he hpl
theorem e_listL {p : Pos} (hm : X.mg "list" = none) (k : WE X e σ H fun x H1 => ∃ a xs, x = .ref a ∧ (SqL X.K H1 a xs ∨ SqT X.K H1 a xs) ∧ ∀ q, H1 q = none → Q (.ref q) (upd H1 q (.lst xs))) (hg : Gl X "list" := by rfl)
    (he : starEach [e] X.env = (false, eval e X.env) :: starEach [] X.env := by rfl) (hpl : (backTo pos (starEach [] X.env)).any (·.1) = false := by rfl) : WE X (.Call (.Name "list" p) [e] [] pos) σ H Q :=
  e_callT call_list_of hm PyProof.Rows.boot_list (a_cons (WE.mono k fun x H1 ⟨a, xs, e1, hS, r⟩ => a_nil ⟨a, xs, by rw [e1], hS, r⟩) he) hg (by decide) (by decide) he hpl
end
section
variable {X : Cx} {σ : L2.St} {H : Hp} {D : Ends} {pos spos py : Pos} {elt tg iter : Expr} {scope : Scope} {x y : Str}
/-- y = [elt for x in range(a)] as a statement -/
theorem s_lcR {a : Expr} {p pc pt : Pos} (i j : Nat) (hm : X.mg "range" = none) (hN : X.N.Nodup) (ok : BlkOk X.N X.env.scope scope [(x, j)])
    (h : WE X a σ H fun v H1 => ∃ n : Nat, v = .int n ∧ n < 2 ^ 62 ∧ ∀ Dn, H1 Dn = none → ∃ Pv : Nat → Hp → Prop, Pv 0 (upd H1 Dn (.lst [])) ∧
      (∀ i H, i < n → Pv i H → WB X scope elt ((wipe σ [j]).set j (some (.int i))) H fun z H4 => ∃ acc, H4 Dn = some (.lst acc) ∧ acc.length < sizeLine ∧ Pv (i + 1) (upd H4 Dn (.lst (acc ++ [z])))) ∧
      ∀ H, Pv n H → D.nx (σ.set i (some (.ref Dn))) H)
    (hg : ∀ (s : Shared) (H : Hp) (C : Addr) (cl : List (Str × Addr)) (fp : List Addr), PG (X.blk s H scope (compEnvC scope cl C X.env) fp) (.Name x pt) (gName j))
    (hsw : swapsWith (.ListComp elt [⟨.Name x pt, .Call (.Name "range" p) [a] [] pc, [], 0⟩] scope pos) (some (.Name y py)) spos.line X.env = pure true)
    (hy : X.N[i]? = some y := by rfl) (hyl : X.env.scope.names.lookup y = some .local := by rfl)
    (hgl : Gl X "range" := by rfl) (hst : starEach [a] X.env = [(false, eval a X.env)] := by rfl)
    (hc : X.calm = true := by rfl) (hs : ∀ z, foldedSetIterable (.Call (.Name "range" p) [a] [] pc) X.env z = pure z := by intro _; rfl) :
    WS X (.Assign [.Name y py] (.ListComp elt [⟨.Name x pt, .Call (.Name "range" p) [a] [] pc, [], 0⟩] scope pos) spos) D σ H :=
  toS (ps_setLc (own := [(x, j)]) (te := WB X scope elt) hc hN hy hyl hsw (pi_range1 hgl hm (pA (es := [a])) hst) ok hg (fun _ _ _ _ _ => pts_nil) (fun s H0 C cl fp => ⟨fun pins s' σ' H' Q' I q => (q s H0 C cl fp).go pins s' I⟩) hs)
    (a_cons (WE.mono h fun v H1 ⟨n, e, hn, k⟩ => a_nil ⟨(n : Int), by rw [e], by omega, by omega, fun Dn nD => by
      obtain ⟨Pv, p0, ps, pd⟩ := k Dn nD
      have en : ((n : Int)).toNat = n := by omega
      rw [en]
      refine lc_range (g := gName j) (tt := tYes) (te := WB X scope elt) (vs := [j]) (σ := σ) Pv p0 (fun i H hi p => ⟨set_wipe σ j _, ?_⟩) pd
      have e0 : (0 : Int) + (i : Int) = (i : Int) := Int.zero_add _
      rw [e0]
      exact ps i H hi p⟩) (by rw [hst]; rfl))
end
theorem at_map {zs : List Str} {d : Nat} (h : d < zs.length) : atI (zs.map V.str) (d : Int) = some (.str zs[d]) := atI_nat (by rw [List.getElem?_map, List.getElem?_eq_getElem h]; rfl)
theorem at_some {xs : List V} {d : Nat} (h : d < xs.length) : atI xs (d : Int) = some xs[d] := atI_nat (List.getElem?_eq_getElem h)
theorem cut_take (xs : List V) (k : Nat) : cutV xs none (some (k : Int)) = xs.take k := by
  unfold cutV
  rw [HT.sIx_none, HT.sIx_nat, List.drop_zero, Nat.sub_zero]
  by_cases h : k ≤ xs.length
  · rw [Nat.min_eq_left h]
  · rw [Nat.min_eq_right (by omega), List.take_length, List.take_of_length_le (by omega)]
section
variable {X : Cx} {es : List Expr} {σ : L2.St} {H : Hp} {U : List V → Hp → Prop} {pos : Pos}
theorem a_str {z : Str} {j} (h : WA X es σ H fun xs H2 => U (.str z :: xs) H2) : WA X (.Constant (.str z) j pos :: es) σ H U := a_cons (e_str h) rfl
end
section
variable {X : Cx} {e h : Expr} {σ : L2.St} {H : Hp} {Q : VK} {pos p2 : Pos}
/-- e[:k] of a tuple, the whole of it or less -/
theorem e_slK (k : WE X e σ H fun x H1 => WE X h σ H1 fun y H2 => ∃ (i : Nat) (a : Addr) (xs : List V), y = .int i ∧ x = .ref a ∧ H2 a = some (.tup xs) ∧ ∀ q H3, Same H2 H3 → H3 q = some (.tup (xs.take i)) → Q (.ref q) H3) :
    WE X (.Subscript e (.Slice none (some h) none p2) pos) σ H Q :=
  toE (pe_slice sl_tupA pE po_none (po_some pE)) (WE.mono k fun x H1 k1 => WE.mono k1 fun y H2 ⟨i, a, xs, e1, e2, ha, q⟩ => ⟨(i : Int), e1, a, xs, e2, .inl (.inl ha), fun hw => q a H2 (Same.refl _) (by
    have h2 := hw.2
    rw [HT.sIx_nat] at h2
    rw [List.take_of_length_le (by omega)]
    exact ha), fun _ p hp => q p _ (same_new hp) (by rw [upd_same, cut_take])⟩)
end
section
variable {X : Cx} {a b : Expr} {σ : L2.St} {H : Hp} {D : Ends} {pos px py pt pt2 : Pos} {x y : Str} {kt k2 : _}
/-- x, y = a, b -/
theorem s_par (i j : Nat) (h : WA X [a, b] σ H fun vs H1 => ∃ v w, vs = [v, w] ∧ D.nx ((σ.set i (some v)).set j (some w)) H1) (hN : X.N.Nodup) (hij : i ≠ j) (hi : X.N[i]? = some x := by rfl) (hj : X.N[j]? = some y := by rfl)
    (hx : X.env.scope.names.lookup x = some .local := by rfl) (hy : X.env.scope.names.lookup y = some .local := by rfl)
    (hw : swappedStores [.Tuple [.Name x px, .Name y py] kt pt] (.Tuple [a, b] k2 pt2) X.env = pure (some [x, y]) := by rfl)
    (hs : swapsWithSole [.Tuple [.Name x px, .Name y py] kt pt] (.Tuple [a, b] k2 pt2) pos.line X.env = pure false := by rfl) (hc : X.calm = true := by rfl) :
    WS X (.Assign [.Tuple [.Name x px, .Name y py] kt pt] (.Tuple [a, b] k2 pt2) pos) D σ H := toS (ps_par hc hN hi hj hij hx hy pA hw hs) h
end
/-! ### texts: signs, slices, joins -/
def Sm (z : Str) : Prop := ∀ c ∈ z.cps.toList, c < 128
theorem Sm.cat {x y : Str} (hx : Sm x) (hy : Sm y) : Sm (x ++ y) := fun c hc => by
  rw [str_cat] at hc
  rcases List.mem_append.mp hc with h | h
  · exact hx c h
  · exact hy c h
theorem sm_of {z : Str} (h : (z.cps.toList.all fun c => decide (c < 128)) = true) : Sm z := fun c hc => of_decide_eq_true (List.all_eq_true.mp h c hc)
theorem sm_empty : Sm Str.empty := fun c hc => by cases hc
theorem sm_join {y : Str} (hy : Sm y) : ∀ {ps : List Str}, (∀ p ∈ ps, Sm p) → Sm (Txt.join y ps) := by
  intro ps h
  rw [TL.join_eq]
  induction ps with
  | nil => exact sm_empty
  | cons x r ih =>
    cases r with
    | nil => exact h x List.mem_cons_self
    | cons z r => exact ((h x List.mem_cons_self).cat hy).cat (ih fun p hp => h p (List.mem_cons_of_mem _ hp))
theorem sm_cut {z : Str} (h : Sm z) (lo hi : Option Int) : Sm (cutS z lo hi) := fun c hc => by
  have hc' : c ∈ (z.cps.toList.drop (HT.sIx z.length 0 lo)).take (HT.sIx z.length z.length hi - HT.sIx z.length 0 lo) := by
    unfold cutS at hc
    simpa using hc
  exact h c (List.mem_of_mem_drop (List.mem_of_mem_take hc'))
theorem sm_one {z : Str} (h : Sm z) {i : Int} {c : Nat} (e : atI z.cps.toList i = some c) : Sm ⟨#[c]⟩ := fun x hx => by
  have ex : x = c := by simpa using hx
  obtain ⟨j, _, hj⟩ := Option.bind_eq_some_iff.mp (show (ixN z.cps.toList.length i).bind (fun j => z.cps.toList[j]?) = some c from e)
  rw [ex]
  exact h c (List.mem_of_getElem? hj)
theorem shown_str {z : Str} (h : Sm z) (l : z.length ≤ 20000) : (PyData.str z).showable = true ∧ (PyData.str z).depth ≤ 60 ∧ (PyData.str z).shown.length ≤ 10 * z.length + 2 :=
  ⟨rfl, Nat.zero_le _, StrLaws.reprText_len z fun c hc => Nat.lt_of_lt_of_le (h c hc) (by decide)⟩
section
variable {X : Cx} {a b c e l lo hi : Expr} {σ : L2.St} {H : Hp} {Q : VK} {pos p2 apos : Pos}
/-- z[i], z[:k], z[k:] -/
theorem e_ixS (k : WE X a σ H fun x H1 => WE X b σ H1 fun y H2 => ∃ z i c, x = .str z ∧ y = .int i ∧ z.length ≤ sizeLine ∧ atI z.cps.toList i = some c ∧ Q (.str ⟨#[c]⟩) H2) (hs : PlainIx b := by exact fun _ _ => rfl) : WE X (.Subscript a b pos) σ H Q := e_ix ix_str k hs
theorem e_slSto (k : WE X e σ H fun x H1 => WE X hi σ H1 fun y H2 => ∃ i z, y = .int i ∧ x = .str z ∧ z.length ≤ sizeLine ∧ Q (.str (cutS z none (some i))) H2) : WE X (.Subscript e (.Slice none (some hi) none p2) pos) σ H Q :=
  toE (pe_slice sl_str pE po_none (po_some pE)) (WE.mono k fun x H1 k1 => WE.mono k1 fun y H2 ⟨i, z, e1, e2, hz, q⟩ => ⟨i, e1, z, e2, hz, q⟩)
theorem e_slSfrom (k : WE X e σ H fun x H1 => WE X lo σ H1 fun y H2 => ∃ i z, y = .int i ∧ x = .str z ∧ z.length ≤ sizeLine ∧ Q (.str (cutS z (some i) none)) H2) : WE X (.Subscript e (.Slice (some lo) none none p2) pos) σ H Q :=
  toE (pe_slice sl_str pE (po_some pE) po_none) (WE.mono k fun x H1 k1 => WE.mono k1 fun y H2 ⟨i, z, e1, e2, hz, q⟩ => ⟨i, e1, z, e2, hz, q⟩)
theorem e_join {o : Expr} (k : WE X o σ H fun sv H1 => ∃ sep : Str, sv = .str sep ∧ WE X e σ H1 fun v H2 => ∃ p, ∃ ys : List Str, v = .ref p ∧ (SqL X.K H2 p (ys.map V.str) ∨ SqT X.K H2 p (ys.map V.str)) ∧ (ys.map (·.length)).sum + ys.length * sep.length ≤ 16777216 ∧ Q (.str (Txt.join sep ys)) H2)
    (hs : starEach [e] X.env = [(false, eval e X.env)] := by rfl) (hbase : attributeBase o "join" X.env (eval o X.env) = eval o X.env := by rfl) (hline : (apos.endLine == pos.line) = true := by rfl) :
    WE X (.Call (.Attribute o "join" apos) [e] [] pos) σ H Q :=
  toE (pe_join pE pE hs hbase hline) (WE.mono k fun sv H1 ⟨sep, es, k1⟩ => ⟨⟨sep, es⟩, WE.mono k1 fun v H2 ⟨p, ys, ev, hS, hl, q⟩ => ⟨sep, p, ys, es, by rw [ev], hS, hl, q⟩⟩)
end
theorem one_len (c : Nat) : (⟨#[c]⟩ : Str).length = 1 := rfl
theorem join0 : ∀ ps : List Str, (Txt.join Str.empty ps).length = (ps.map (·.length)).sum := fun ps => by
  unfold Txt.join
  rw [size_glued]
  show _ + _ * 0 = _
  omega
end My

namespace My
open PySem PySem.Spec PyProof.Rows L2
/-! ### forms and names: the mirrors -/
abbrev letters : Str := "abcdefghijklmnopqrstuvwxyz"
abbrev resv : List Str := ["select", "distinct", "as", "from", "where", "and", "in"]
def letB (c : Nat) : Bool := decide (c ∈ letters.cps.toList)
def valS (z : Str) : Bool := decide (1 ≤ z.length) && decide (z.length ≤ 8) && z.cps.toList.all letB
def valD : PyData → Bool | .str z => valS z | _ => false
def namD : PyData → Bool | .str z => valS z && !decide (z ∈ resv) | _ => false
def tupD (lo hi : Int) (f : PyData → Bool) : PyData → Bool | .tuple ds => decide (lo ≤ ds.length) && decide ((ds.length : Int) ≤ hi) && ds.all f | _ => false
def strOf : PyData → Str | .str z => z | _ => Str.empty
/-- ascending, no two alike -/
def ascS : List Str → Bool
  | x :: y :: r => decide (x.cps.toList < y.cps.toList) && ascS (y :: r)
  | _ => true
def valsD : PyData → Bool | .tuple ds => decide (1 ≤ ds.length) && decide (ds.length ≤ 8) && ds.all valD && ascS (ds.map strOf) | _ => false
/-! sizes -/
mutual
/-- short texts of small signs, ints that can be shown, no dict but {} -/
def okE : PyData → Bool
  | .str z => decide (z.length ≤ 1000) && z.cps.toList.all fun c => decide (c < 128)
  | .int i => (PyData.int i).showable && decide ((PyData.int i).shown.length ≤ 60) && decide ((PyData.int i).shown.cps.toList.head? ≠ some 39)
  | .tuple ds => okEs ds
  | .list ds => okEs ds
  | .none | .bool _ => true
  | .dict kvs => kvs.isEmpty
def okEs : List PyData → Bool
  | [] => true
  | d :: ds => okE d && okEs ds
end
mutual
def szE : PyData → Nat
  | .str x => 10 * x.length + 5
  | .tuple ds => szEs ds + 5
  | .list ds => szEs ds + 5
  | .int _ => 70
  | .none | .bool _ | .dict _ => 5
def szEs : List PyData → Nat
  | [] => 0
  | d :: ds => szE d + 2 + szEs ds
end
theorem okEs_mem : ∀ {ds : List PyData}, okEs ds = true → ∀ d ∈ ds, okE d = true
  | e :: ds, h, d, hd => by
    have h' : (okE e && okEs ds) = true := h
    rw [Bool.and_eq_true] at h'
    rcases List.mem_cons.mp hd with rfl | hd
    · exact h'.1
    · exact okEs_mem h'.2 d hd
theorem okEs_of : ∀ {ds : List PyData}, (∀ d ∈ ds, okE d = true) → okEs ds = true
  | [], _ => rfl
  | e :: ds, h => by
    show (okE e && okEs ds) = true
    rw [h e List.mem_cons_self, okEs_of fun d hd => h d (List.mem_cons_of_mem _ hd)]
    rfl
theorem szEs_mem : ∀ {ds : List PyData} {d : PyData}, d ∈ ds → szE d + 2 ≤ szEs ds
  | e :: ds, d, hd => by
    show szE d + 2 ≤ szE e + 2 + szEs ds
    rcases List.mem_cons.mp hd with rfl | hd
    · omega
    · have := szEs_mem hd
      omega
theorem szEs_append : ∀ (ds es : List PyData), szEs (ds ++ es) = szEs ds + szEs es
  | [], es => by show szEs es = 0 + szEs es; omega
  | d :: ds, es => by
    show szE d + 2 + szEs (ds ++ es) = szE d + 2 + szEs ds + szEs es
    rw [szEs_append ds es]; omega
theorem len_szEs : ∀ ds : List PyData, ds.length ≤ szEs ds
  | [] => Nat.zero_le _
  | d :: ds => by
    have := len_szEs ds
    show ds.length + 1 ≤ szE d + 2 + szEs ds
    omega
theorem depth_mem : ∀ {ds : List PyData} {d : PyData}, d ∈ ds → d.depth ≤ PyData.depthAll ds
  | e :: ds, d, hd => by
    show d.depth ≤ max (PyData.depth e) (PyData.depthAll ds)
    rcases List.mem_cons.mp hd with rfl | hd
    · exact Nat.le_max_left _ _
    · exact Nat.le_trans (depth_mem hd) (Nat.le_max_right _ _)
mutual
theorem shownE_le : ∀ d : PyData, okE d = true → d.shown.length ≤ szE d
  | .none, _ => by decide
  | .bool true, _ => by decide
  | .bool false, _ => by decide
  | .str x, h => by
    have h' : (decide (x.length ≤ 1000) && x.cps.toList.all fun c => decide (c < 128)) = true := h
    rw [Bool.and_eq_true] at h'
    show (reprText x).length ≤ 10 * x.length + 5
    have := StrLaws.reprText_len x (fun c hc => Nat.lt_of_lt_of_le (of_decide_eq_true (List.all_eq_true.mp h'.2 c hc)) (by decide))
    omega
  | .tuple ds, h => by
    show (tupleText (PyData.shownAll ds)).length ≤ szEs ds + 5
    have h1 := tupleText_len_le (PyData.shownAll ds)
    have h2 := shownEs_le ds h
    omega
  | .list ds, h => by
    show (listText (PyData.shownAll ds)).length ≤ szEs ds + 5
    have h1 := listText_len_le (PyData.shownAll ds)
    have h2 := shownEs_le ds h
    omega
  | .int i, h => by
    have h' : ((PyData.int i).showable && decide ((PyData.int i).shown.length ≤ 60) && decide ((PyData.int i).shown.cps.toList.head? ≠ some 39)) = true := h
    rw [Bool.and_eq_true, Bool.and_eq_true] at h'
    exact Nat.le_trans (of_decide_eq_true h'.1.2) (show (60 : Nat) ≤ 70 by decide)
  | .dict [], _ => by decide
  | .dict (_ :: _), h => by cases h
theorem shownEs_le : ∀ ds : List PyData, okEs ds = true → ((PyData.shownAll ds).map (·.length)).sum + 2 * (PyData.shownAll ds).length ≤ szEs ds
  | [], _ => by decide
  | d :: ds, h => by
    have h' : (okE d && okEs ds) = true := h
    simp only [Bool.and_eq_true] at h'
    have h1 := shownE_le d h'.1
    have h2 := shownEs_le ds h'.2
    show (((PyData.shown d) :: PyData.shownAll ds).map (·.length)).sum + 2 * ((PyData.shown d) :: PyData.shownAll ds).length ≤ szE d + 2 + szEs ds
    rw [List.map_cons, List.sum_cons, List.length_cons]
    omega
end
mutual
theorem showableE : ∀ d : PyData, okE d = true → d.showable = true
  | .none, _ => rfl
  | .bool _, _ => rfl
  | .str _, _ => rfl
  | .tuple ds, h => showablesE ds h
  | .list ds, h => showablesE ds h
  | .int i, h => by
    have h' : ((PyData.int i).showable && decide ((PyData.int i).shown.length ≤ 60) && decide ((PyData.int i).shown.cps.toList.head? ≠ some 39)) = true := h
    rw [Bool.and_eq_true, Bool.and_eq_true] at h'
    exact h'.1.1
  | .dict [], _ => rfl
  | .dict (_ :: _), h => by cases h
theorem showablesE : ∀ ds : List PyData, okEs ds = true → PyData.showableAll ds = true
  | [], _ => rfl
  | d :: ds, h => by
    have h' : (okE d && okEs ds) = true := h
    simp only [Bool.and_eq_true] at h'
    show (PyData.showable d && PyData.showableAll ds) = true
    rw [showableE d h'.1, showablesE ds h'.2]
    rfl
end
/-- data of forms -/
def okS (d : PyData) : Bool := okE d && decide (szE d ≤ 1000000) && decide (d.depth ≤ 50)
theorem okS_iff {d : PyData} : okS d = true ↔ okE d = true ∧ szE d ≤ 1000000 ∧ d.depth ≤ 50 := by
  unfold okS
  rw [Bool.and_eq_true, Bool.and_eq_true, decide_eq_true_eq, decide_eq_true_eq]
  exact ⟨fun ⟨⟨a, b⟩, c⟩ => ⟨a, b, c⟩, fun ⟨a, b, c⟩ => ⟨⟨a, b⟩, c⟩⟩
theorem okS_t {ds : List PyData} (h : okS (.tuple ds) = true) : ∀ d ∈ ds, okS d = true := fun d hd => by
  obtain ⟨h1, h2, h3⟩ := okS_iff.mp h
  have h2' : szEs ds + 5 ≤ 1000000 := h2
  have h3' : PyData.depthAll ds + 1 ≤ 50 := h3
  have := szEs_mem hd
  have := depth_mem hd
  exact okS_iff.mpr ⟨okEs_mem h1 d hd, by omega, by omega⟩
theorem okS_l {ds : List PyData} (h : okS (.list ds) = true) : ∀ d ∈ ds, okS d = true := okS_t h
theorem okS_repr {d : PyData} (h : okS d = true) : d.showable = true ∧ d.depth ≤ 60 ∧ d.shown.length ≤ sizeLine := by
  obtain ⟨h1, h2, h3⟩ := okS_iff.mp h
  exact ⟨showableE d h1, by omega, Nat.le_trans (shownE_le d h1) (Nat.le_trans h2 (by decide))⟩
theorem str_line {z : Str} (h : okS (.str z) = true) : z.length ≤ sizeLine := by
  obtain ⟨h1, _⟩ := okS_iff.mp h
  have h' : (decide (z.length ≤ 1000) && z.cps.toList.all fun c => decide (c < 128)) = true := h1
  rw [Bool.and_eq_true] at h'
  exact Nat.le_trans (of_decide_eq_true h'.1) (by decide)
theorem okS_sm {z : Str} (h : okS (.str z) = true) : Sm z := by
  obtain ⟨h1, _⟩ := okS_iff.mp h
  have h' : (decide (z.length ≤ 1000) && z.cps.toList.all fun c => decide (c < 128)) = true := h1
  rw [Bool.and_eq_true] at h'
  exact sm_of h'.2
def spB (f : PyData → Bool) : Sp := fun vs H Q _ => ∃ S v d, vs = [v] ∧ DG S H v d ∧ okS d = true ∧ ∀ H', Same H H' → Q (.bl (f d)) H'
theorem sqL_same {K : PySem.W.Frag} {H H' : Hp} {a : Addr} {xs : List V} (e : Same H H') (h : SqL K H a xs) : SqL K H' a xs := by
  rcases h with (h | ⟨o, h⟩) | h
  · exact .inl (.inl (e _ _ h))
  · exact .inl (.inr ⟨o, e _ _ h⟩)
  · exact .inr h
/-- a dict of the program's top with text keys, read alone -/
def keyZ (e : DictEntry) : Option Str := match e.key with | .str x _ => some x | _ => none
structure KSt (w : World) (K : PySem.W.Frag) (a : Addr) (zs : List Str) : Prop where
  ex : ∃ es n, KDict K w a es n ∧ es.toList.map keyZ = zs.map some
/-- what the top leaves of the names that forms and names use -/
structure Bf (w : World) (K : PySem.W.Frag) (mg : Str → Option Value) : Prop where
  len : mg "len" = none
  isi : mg "isinstance" = none
  str : mg "str" = none
  tuple : mg "tuple" = none
  all : mg "all" = none
  set : mg "set" = none
  sorted : mg "sorted" = none
  most : ∃ t, mg "MOST_LETTERS" = some (.int 8 t)
  mostV : ∃ t, mg "MOST_VALUES" = some (.int 8 t)
  resv : ∃ a, mg "RESERVED" = some (.ref a) ∧ KSt w K a resv
section
variable {X : Cx} {σ : L2.St} {H : Hp} {Q : VK} {pos p pc : Pos} {elt iter : Expr} {scope : Scope} {x : Str}
/-- all([f(x) for x in a tuple]) -/
theorem e_allT {pt : Pos} (j : Nat) (f : PyData → Bool) (hm : X.mg "all" = none) (hN : X.N.Nodup) (okb : BlkOk X.N X.env.scope scope [(x, j)])
    (h : WE X iter σ H fun v H1 => ∃ S ds a xs, v = .ref a ∧ H1 a = some (.tup xs) ∧ DGs S H1 xs ds ∧ ds.length ≤ 1000 ∧
      (∀ d ∈ ds, ∀ u H2, Same H1 H2 → DG S H2 u d → WB X scope elt ((wipe σ [j]).set j (some u)) H2 fun y H3 => y = .bl (f d) ∧ Same H2 H3) ∧ ∀ H2, Same H1 H2 → Q (.bl (ds.all f)) H2)
    (hg : ∀ (s : Shared) (H : Hp) (C : Addr) (cl : List (Str × Addr)) (fp : List Addr), PG (X.blk s H scope (compEnvC scope cl C X.env) fp) (.Name x pt) (gName j))
    (hgl : Gl X "all" := by rfl) (hc : X.calm = true := by rfl) (hs : ∀ z, foldedSetIterable iter X.env z = pure z := by intro _; rfl)
    (he : starEach [.ListComp elt [⟨.Name x pt, iter, [], 0⟩] scope pc] X.env = (false, eval (.ListComp elt [⟨.Name x pt, iter, [], 0⟩] scope pc) X.env) :: starEach [] X.env := by rfl)
    (hpl : (backTo pos (starEach [] X.env)).any (·.1) = false := by rfl) :
    WE X (.Call (.Name "all" p) [.ListComp elt [⟨.Name x pt, iter, [], 0⟩] scope pc] [] pos) σ H Q := by
  refine e_callB (cr_all hc) hm (by decide +kernel) (a_cons ?_ he) hgl (by decide) (by decide) he hpl
  refine e_lcT j hN okb (WE.mono h fun v H1 ⟨S, ds, a, xs, e, ha, hds, h1000, hel, q⟩ => ⟨a, xs, e, .inl (.inl ha), fun D nD => ?_⟩) hg hc hs
  have lx := hds.length
  refine ⟨fun i H' => Same H1 H' ∧ H' D = some (.lst (((ds.take i).map f).map V.bl)), ⟨same_new nD, upd_same⟩, fun i H' hi p => .inl (.inl (p.1 _ _ ha)), fun i y H' hi p => ?_, fun H' p => a_nil ⟨D, (ds.take xs.length).map f, rfl, .inl (.inl p.2), ?_⟩⟩
  · obtain ⟨d, hd, hy⟩ := hds.get hi
    intro s0 H00 C cl fp
    refine WE.mono (hel d (List.mem_of_getElem? hd) y H' p.1 (hy.same p.1) s0 H00 C cl fp) fun z H4 ⟨ez, s4⟩ => ?_
    subst ez
    have lt : i < ds.length := (List.getElem?_eq_some_iff.mp hd).1
    refine ⟨_, s4 _ _ p.2, ?_, same_mut (p.1.trans s4) nD, ?_⟩
    · rw [List.length_map, List.length_map, List.length_take]
      exact Nat.lt_of_lt_of_le (show min i ds.length < 1001 by omega) (by decide)
    · rw [upd_same, List.take_succ_eq_append_getElem lt]
      have e : ds[i] = d := by rw [List.getElem?_eq_getElem lt] at hd; exact Option.some.inj hd
      rw [e, List.map_append, List.map_append]
      rfl
  · rw [lx, List.take_length, List.all_map]
    exact q H' p.1
/-- all([f(c) for c in a text]) -/
theorem e_allS {pt : Pos} (j : Nat) (f : Nat → Bool) (hm : X.mg "all" = none) (hN : X.N.Nodup) (okb : BlkOk X.N X.env.scope scope [(x, j)])
    (h : WE X iter σ H fun v H1 => ∃ z : Str, v = .str z ∧ z.length ≤ 1000 ∧
      (∀ c ∈ z.cps.toList, ∀ H2, Same H1 H2 → WB X scope elt ((wipe σ [j]).set j (some (.str ⟨#[c]⟩))) H2 fun y H3 => y = .bl (f c) ∧ Same H2 H3) ∧ ∀ H2, Same H1 H2 → Q (.bl (z.cps.toList.all f)) H2)
    (hg : ∀ (s : Shared) (H : Hp) (C : Addr) (cl : List (Str × Addr)) (fp : List Addr), PG (X.blk s H scope (compEnvC scope cl C X.env) fp) (.Name x pt) (gName j))
    (hgl : Gl X "all" := by rfl) (hc : X.calm = true := by rfl) (hs : ∀ z, foldedSetIterable iter X.env z = pure z := by intro _; rfl)
    (he : starEach [.ListComp elt [⟨.Name x pt, iter, [], 0⟩] scope pc] X.env = (false, eval (.ListComp elt [⟨.Name x pt, iter, [], 0⟩] scope pc) X.env) :: starEach [] X.env := by rfl)
    (hpl : (backTo pos (starEach [] X.env)).any (·.1) = false := by rfl) :
    WE X (.Call (.Name "all" p) [.ListComp elt [⟨.Name x pt, iter, [], 0⟩] scope pc] [] pos) σ H Q := by
  refine e_callB (cr_all hc) hm (by decide +kernel) (a_cons ?_ he) hgl (by decide) (by decide) he hpl
  refine e_lcS j hN okb (WE.mono h fun v H1 ⟨z, e, hz, hel, q⟩ => ⟨z, e, fun D nD => ?_⟩) hg hc hs
  have hz' : z.cps.toList.length ≤ 1000 := by rw [Array.length_toList]; exact hz
  refine ⟨fun i H' => Same H1 H' ∧ H' D = some (.lst (((z.cps.toList.take i).map f).map V.bl)), ⟨same_new nD, upd_same⟩, fun i c H' hi p => ?_, fun H' p => a_nil ⟨D, (z.cps.toList.take z.cps.size).map f, rfl, .inl (.inl p.2), ?_⟩⟩
  · have hi' : z.cps.toList[i]? = some c := by rw [Array.getElem?_toList]; exact hi
    intro s0 H00 C cl fp
    refine WE.mono (hel c (List.mem_of_getElem? hi') H' p.1 s0 H00 C cl fp) fun u H4 ⟨eu, s4⟩ => ?_
    subst eu
    have lt : i < z.cps.toList.length := (List.getElem?_eq_some_iff.mp hi').1
    refine ⟨_, s4 _ _ p.2, ?_, same_mut (p.1.trans s4) nD, ?_⟩
    · rw [List.length_map, List.length_map, List.length_take]
      exact Nat.lt_of_lt_of_le (show min i z.cps.toList.length < 1001 by omega) (by decide)
    · rw [upd_same, List.take_succ_eq_append_getElem lt]
      have e : z.cps.toList[i] = c := by rw [List.getElem?_eq_getElem lt] at hi'; exact Option.some.inj hi'
      rw [e, List.map_append, List.map_append]
      rfl
  · have e : z.cps.size = z.cps.toList.length := by rw [Array.length_toList]
    rw [e, List.take_length, List.all_map]
    exact q H' p.1
end
section
variable {P : Program} {w : World} {K : PySem.W.Frag} {mg : Str → Option Value} {base : Heap}
/-- the def at g says f of any object -/
structure Says (P : Program) (w : World) (K : PySem.W.Frag) (mg : Str → Option Value) (base : Heap) (k : Nat) (g : Addr) (f : PyData → Bool) : Prop where
  ex : ∃ (fd : FuncData) (ps : List Str), FnOk P w K mg base CX0 k g fd ps (spB f) ∧ PySem.W.keepIn K (.ref g) = true ∧ Binds K fd ps []
def spTO (P : Program) (w : World) (K : PySem.W.Frag) (mg : Str → Option Value) (base : Heap) (k : Nat) : Sp := fun vs H Q _ => ∃ S v d lo hi g f, vs = [v, .int lo, .int hi, .ref g] ∧ Says P w K mg base k g f ∧ hi ≤ 1000 ∧ DG S H v d ∧ okS d = true ∧ ∀ H', Same H H' → Q (.bl (tupD lo hi f d)) H'
end
/-! ### ascending texts -/
abbrev lt (a b : Str) : Prop := a.cps.toList < b.cps.toList
theorem lt_tri {a b : Str} (h : ¬ lt a b) (k : ¬ lt b a) : a = b := str_ext (List.le_antisymm k h)
theorem lt_trans {a b c : Str} (h : lt a b) (k : lt b c) : lt a c := List.lt_trans h k
theorem lt_irr (a : Str) : ¬ lt a a := List.lt_irrefl _
theorem le_trans {a b c : Str} (h : ¬ lt b a) (k : ¬ lt c b) : ¬ lt c a := fun z => by
  by_cases e : a = b
  · subst e; exact k z
  · have : lt a b := by
      by_cases q : lt a b
      · exact q
      · exact absurd (lt_tri q h) e
    exact k (lt_trans z this)
theorem asc_iff : ∀ zs : List Str, ascS zs = true ↔ zs.Pairwise lt
  | [] => by simp [ascS]
  | [x] => by simp [ascS]
  | x :: y :: r => by
    have ih := asc_iff (y :: r)
    show (decide (lt x y) && ascS (y :: r)) = true ↔ _
    rw [Bool.and_eq_true, decide_eq_true_eq, ih, List.pairwise_cons (a := x)]
    constructor
    · rintro ⟨h, k⟩
      refine ⟨fun z hz => ?_, k⟩
      rcases List.mem_cons.mp hz with rfl | hz
      · exact h
      · exact lt_trans h ((List.pairwise_cons.mp k).1 z hz)
    · rintro ⟨h, k⟩
      exact ⟨h y List.mem_cons_self, k⟩
theorem sorted_pw : ∀ (ys : List Str) (x : Str), risingS x ys = true → (x :: ys).Pairwise fun a b => ¬ lt b a
  | [], x, _ => by simp
  | y :: ys, x, h => by
    have h' : (!ltCps y.cps.toList x.cps.toList && risingS y ys) = true := h
    rw [Bool.and_eq_true, ltCps_eq] at h'
    have h1 : ¬ lt y x := by simpa using h'.1
    have ih := sorted_pw ys y h'.2
    refine List.pairwise_cons.mpr ⟨fun z hz => ?_, ih⟩
    rcases List.mem_cons.mp hz with rfl | hz
    · exact h1
    · exact le_trans h1 ((List.pairwise_cons.mp ih).1 z hz)
theorem sortedS_pw {ys : List Str} (h : sortedS ys = true) : ys.Pairwise fun a b => ¬ lt b a := by
  cases ys with
  | nil => exact .nil
  | cons y ys => exact sorted_pw ys y h
theorem asc_eq {zs ys : List Str} (hp : ys.Perm zs) (hs : sortedS ys = true) : (decide (zs = ys) && decide zs.Nodup) = ascS zs := by
  have pw := sortedS_pw hs
  apply Bool.eq_iff_iff.mpr
  rw [Bool.and_eq_true, decide_eq_true_eq, decide_eq_true_eq, asc_iff]
  constructor
  · rintro ⟨e, n⟩
    subst e
    refine (pw.and n).imp fun {a b} ⟨h1, h2⟩ => ?_
    by_cases q : lt a b
    · exact q
    · exact absurd (lt_tri q h1) h2
  · intro h
    have pw2 : zs.Pairwise fun a b => ¬ lt b a := h.imp fun {a b} h1 h2 => lt_irr a (lt_trans h1 h2)
    exact ⟨List.Perm.eq_of_pairwise (fun a b _ _ h1 h2 => lt_tri h2 h1) pw2 pw hp.symm, h.imp (S := fun a b => a ≠ b) fun {a b} h1 h2 => lt_irr a (by rw [← h2] at h1; exact h1)⟩
theorem eqv_strs : ∀ (zs ys : List Str), PyData.eqvAll (zs.map PyData.str) (ys.map PyData.str) = decide (zs = ys)
  | [], [] => rfl
  | [], y :: ys => rfl
  | z :: zs, [] => rfl
  | z :: zs, y :: ys => by
    show ((z == y) && PyData.eqvAll (zs.map PyData.str) (ys.map PyData.str)) = _
    rw [eqv_strs zs ys]
    apply Bool.eq_iff_iff.mpr
    simp
/-! ### data that are texts -/
theorem strs_of {S : Addr → Prop} {H : Hp} : ∀ {xs : List V} {ds : List PyData}, DGs S H xs ds → ds.all valD = true → ds = (ds.map strOf).map PyData.str ∧ xs = (ds.map strOf).map V.str ∧ (ds.map strOf).all valS = true
  | _, _, .nil, _ => ⟨rfl, rfl, rfl⟩
  | _, _, .cons (d := d) h hs, e => by
    have e' : (valD d && _) = true := e
    rw [Bool.and_eq_true] at e'
    obtain ⟨h1, h2, h3⟩ := strs_of hs e'.2
    cases h with
    | str z => exact ⟨by rw [List.map_cons, List.map_cons]; exact congrArg _ h1, by rw [List.map_cons, List.map_cons]; exact congrArg _ h2, by rw [List.map_cons, List.all_cons, h3, Bool.and_true]; exact e'.1⟩
    | _ => exact absurd e'.1 (by simp [valD])
theorem let_small : ∀ c, letB c = true → c < 128 := fun c h => by
  have h' : c ∈ letters.cps.toList := of_decide_eq_true h
  have : ∀ x ∈ letters.cps.toList, x < 128 := by decide +kernel
  exact this c h'
theorem val_small {z : Str} (h : valS z = true) : z.length ≤ 8 ∧ ∀ c ∈ z.cps.toList, c < 128 := by
  unfold valS at h
  simp only [Bool.and_eq_true, decide_eq_true_eq, List.all_eq_true] at h
  exact ⟨h.1.2, fun c hc => let_small c (h.2 c hc)⟩
theorem lay_strs : ∀ {zs : List Str}, zs.all valS = true → PyData.canLayAll0 (zs.map PyData.str) = true
  | [], _ => rfl
  | z :: zs, h => by
    rw [List.all_cons, Bool.and_eq_true] at h
    show (PyData.canLay0 (.str z) && PyData.canLayAll0 (zs.map PyData.str)) = true
    rw [lay_strs h.2, Bool.and_true]
    show (z.cps.all fun c => decide (c < 0x110000)) = true
    rw [← Array.all_toList, List.all_eq_true]
    exact fun c hc => decide_eq_true (Nat.lt_of_lt_of_le ((val_small h.1).2 c hc) (by decide))
theorem depth_strs : ∀ zs : List Str, PyData.depthAll (zs.map PyData.str) = 0
  | [] => rfl
  | z :: zs => by show max 0 (PyData.depthAll (zs.map PyData.str)) = 0; rw [depth_strs zs]; rfl
theorem shaped_strs {zs : List Str} (h : zs.all valS = true) : SeqAt.shaped (.tuple (zs.map PyData.str)) = true := by
  show (PyData.canLayAll0 (zs.map PyData.str) && decide (PyData.depthAll (zs.map PyData.str) + 1 ≤ 64)) = true
  rw [lay_strs h, depth_strs]
  rfl
theorem dps_strs {K : PySem.W.Frag} {H : Hp} : ∀ zs : List Str, DpAll K H (zs.map V.str) (zs.map PyData.str)
  | [] => .nil
  | z :: zs => .cons (.str z) (dps_strs zs)
theorem inV_strs (z : Str) : ∀ zs : List Str, inV (.str z) (zs.map V.str) = decide (z ∈ zs)
  | [] => rfl
  | y :: zs => by
    show ((y == z) || inV (.str z) (zs.map V.str)) = _
    rw [inV_strs z zs]
    apply Bool.eq_iff_iff.mpr
    simp only [Bool.or_eq_true, beq_iff_eq, decide_eq_true_eq, List.mem_cons]
    exact ⟨fun h => h.elim (fun e => .inl e.symm) .inr, fun h => h.elim (fun e => .inl e.symm) .inr⟩
theorem flat_strs' : ∀ zs : List Str, (zs.map V.str).all flatV = true
  | [] => rfl
  | z :: zs => by show (true && (zs.map V.str).all flatV) = true; rw [flat_strs' zs]; rfl
def spDiff (K : PySem.W.Frag) : Sp := fun vs H Q _ => ∃ a, ∃ xs : List Str, vs = [.ref a] ∧ (SqL K H a (xs.map V.str) ∨ SqT K H a (xs.map V.str)) ∧ xs.length ≤ 1000 ∧ Q (.bl (decide xs.Nodup)) H
theorem letters_are : letters.cps.toList = List.range' 97 26 := by decide +kernel
theorem one_lt (a b : Nat) : ([a] : List Nat) < [b] ↔ a < b := by
  constructor
  · intro h
    rcases List.cons_lt_cons_iff.mp h with h | ⟨_, h⟩
    · exact h
    · exact absurd h (List.lt_irrefl _)
  · exact fun h => List.cons_lt_cons_iff.mpr (.inl h)
theorem let_btw (c : Nat) : letB c = (!decide (([c] : List Nat) < [97]) && !decide (([122] : List Nat) < [c])) := by
  unfold letB
  rw [letters_are]
  apply Bool.eq_iff_iff.mpr
  rw [decide_eq_true_eq, List.mem_range'_1, Bool.and_eq_true, Bool.not_eq_true', Bool.not_eq_true', decide_eq_false_iff_not, decide_eq_false_iff_not, one_lt, one_lt]
  omega
theorem asc_range : ∀ zs : List Str, ascS zs = (List.range (zs.length - 1)).all fun k => decide (lt (zs.getD k Str.empty) (zs.getD (k + 1) Str.empty))
  | [] => rfl
  | [x] => rfl
  | x :: y :: r => by
    have ih := asc_range (y :: r)
    show (decide (lt x y) && ascS (y :: r)) = (List.range (r.length + 1)).all _
    rw [ih, List.range_succ_eq_map, List.all_cons, List.all_map]
    rfl
section
variable {X : Cx} {a b c e : Expr} {σ : L2.St} {H : Hp} {Q : VK} {pos p pc pr pcr : Pos} {elt : Expr} {scope : Scope} {x : Str}
/-- x <= e <= y, texts -/
theorem e_btwS (k : WE X a σ H fun x H1 => WE X b σ H1 fun y H2 => ∃ i j, x = .str i ∧ y = .str j ∧ (¬ j.cps.toList < i.cps.toList → WE X c σ H2 fun z H3 => ∃ m, z = .str m ∧ Q (.bl (!decide (m.cps.toList < j.cps.toList))) H3) ∧ (j.cps.toList < i.cps.toList → Q (.bl false) H2))
    (hm : lastMarks [.LtE, .LtE] [b, c] = false := by with_unfolding_all rfl) : WE X (.Compare a [.LtE, .LtE] [b, c] pos) σ H Q :=
  e_chain op_le_str op_le_str (WE.mono k fun x H1 k1 => WE.mono k1 fun y H2 ⟨i, j, e1, e2, h1, h2⟩ => ⟨i, j, e1, e2, !decide (j.cps.toList < i.cps.toList), rfl, by
    by_cases hij : j.cps.toList < i.cps.toList
    · rw [decide_eq_true hij]
      exact h2 hij
    · rw [decide_eq_false hij]
      exact WE.mono (h1 hij) fun z H3 ⟨m, e3, r⟩ => ⟨j, m, e2, e3, r⟩⟩) hm
/-- all([f(k) for k in range(n)]) -/
theorem e_allR {pt : Pos} (j : Nat) (f : Nat → Bool) (hm : X.mg "all" = none) (hr : X.mg "range" = none) (hN : X.N.Nodup) (okb : BlkOk X.N X.env.scope scope [(x, j)])
    (h : WE X a σ H fun v H1 => ∃ n : Nat, v = .int n ∧ n ≤ 1000 ∧ (∀ i, i < n → ∀ H2, Same H1 H2 → WB X scope elt ((wipe σ [j]).set j (some (.int i))) H2 fun y H3 => y = .bl (f i) ∧ Same H2 H3) ∧ ∀ H2, Same H1 H2 → Q (.bl ((List.range n).all f)) H2)
    (hg : ∀ (s : Shared) (H : Hp) (C : Addr) (cl : List (Str × Addr)) (fp : List Addr), PG (X.blk s H scope (compEnvC scope cl C X.env) fp) (.Name x pt) (gName j))
    (hgl : Gl X "all" := by rfl) (hgr : Gl X "range" := by rfl) (hst : starEach [a] X.env = [(false, eval a X.env)] := by rfl) (hc : X.calm = true := by rfl) (hs : ∀ z, foldedSetIterable (.Call (.Name "range" pr) [a] [] pcr) X.env z = pure z := by intro _; rfl)
    (he : starEach [.ListComp elt [⟨.Name x pt, .Call (.Name "range" pr) [a] [] pcr, [], 0⟩] scope pc] X.env = (false, eval (.ListComp elt [⟨.Name x pt, .Call (.Name "range" pr) [a] [] pcr, [], 0⟩] scope pc) X.env) :: starEach [] X.env := by rfl)
    (hpl : (backTo pos (starEach [] X.env)).any (·.1) = false := by rfl) :
    WE X (.Call (.Name "all" p) [.ListComp elt [⟨.Name x pt, .Call (.Name "range" pr) [a] [] pcr, [], 0⟩] scope pc] [] pos) σ H Q := by
  refine e_callB (cr_all hc) hm (by decide +kernel) (a_cons ?_ he) hgl (by decide) (by decide) he hpl
  refine e_lcR j hr hN okb (WE.mono h fun v H1 ⟨n, e, hn, hel, q⟩ => ⟨n, e, by omega, fun D nD => ?_⟩) hg hgr hst hc hs
  refine ⟨fun i H' => Same H1 H' ∧ H' D = some (.lst (((List.range i).map f).map V.bl)), ⟨same_new nD, upd_same⟩, fun i H' hi p => ?_, fun H' p => a_nil ⟨D, (List.range n).map f, rfl, .inl (.inl p.2), ?_⟩⟩
  · intro s0 H00 C cl fp
    refine WE.mono (hel i hi H' p.1 s0 H00 C cl fp) fun u H4 ⟨eu, s4⟩ => ?_
    subst eu
    refine ⟨_, s4 _ _ p.2, ?_, same_mut (p.1.trans s4) nD, ?_⟩
    · rw [List.length_map, List.length_map, List.length_range]
      exact Nat.lt_of_lt_of_le (show i < 1001 by omega) (by decide)
    · rw [upd_same, List.range_succ, List.map_append, List.map_append]
      rfl
  · rw [List.all_map]
    exact q H' p.1
end
def wd (z : Str) : Prop := z.length ≤ 60 ∧ Sm z
def wdB (z : Str) : Bool := decide (z.length ≤ 14) && z.cps.toList.all fun c => decide (c < 128)
theorem wd_of {z : Str} (h : wdB z = true) : z.length ≤ 14 ∧ Sm z := by
  unfold wdB at h
  rw [Bool.and_eq_true] at h
  exact ⟨of_decide_eq_true h.1, sm_of h.2⟩
theorem wds_of {zs : List Str} (h : zs.all wdB = true) : ∀ z ∈ zs, z.length ≤ 14 ∧ Sm z := fun z hz => wd_of (List.all_eq_true.mp h z hz)
end My

namespace My
open PySem PySem.Spec PyProof.Rows L2
/-! ### the pure layer: what an expression gives of data, and nothing else changes -/
abbrev Rho := List (Option PyData)
structure SL (S : Addr → Prop) (H : Hp) (σ : L2.St) (ρ : Rho) : Prop where
  dom : ∀ a, S a → H a ≠ none
  look : ∀ (i : Nat) (d : PyData), ρ[i]? = some (some d) → ∃ v, σ[i]? = some (some v) ∧ DG S H v d
  len : σ.length = ρ.length
section
variable {S : Addr → Prop} {H H' : Hp} {σ : L2.St} {ρ : Rho} {i : Nat} {v : V} {d : PyData}
theorem SL.same (h : SL S H σ ρ) (e : Same H H') : SL S H' σ ρ := ⟨in_same e h.dom, fun i d q => let ⟨v, a, b⟩ := h.look i d q; ⟨v, a, b.same e⟩, h.len⟩
theorem SL.set (h : SL S H σ ρ) (hv : DG S H v d) : SL S H (σ.set i (some v)) (ρ.set i (some d)) := by
  refine ⟨h.dom, fun j e q => ?_, by rw [List.length_set, List.length_set]; exact h.len⟩
  by_cases ij : i = j
  · subst ij
    by_cases lt : i < ρ.length
    · rw [List.getElem?_set_self lt] at q
      cases q
      exact ⟨v, List.getElem?_set_self (by rw [h.len]; exact lt), hv⟩
    · rw [List.getElem?_eq_none (by rw [List.length_set]; omega)] at q
      cases q
  · rw [List.getElem?_set_ne ij] at q
    obtain ⟨u, a, b⟩ := h.look j e q
    exact ⟨u, by rw [List.getElem?_set_ne ij]; exact a, b⟩
theorem SL.wipe (h : SL S H σ ρ) : SL S H (L2.wipe σ [i]) (ρ.set i none) := by
  show SL S H (σ.set i none) (ρ.set i none)
  refine ⟨h.dom, fun j e q => ?_, by rw [List.length_set, List.length_set]; exact h.len⟩
  by_cases ij : i = j
  · subst ij
    by_cases lt : i < ρ.length
    · rw [List.getElem?_set_self lt] at q; cases q
    · rw [List.getElem?_eq_none (by rw [List.length_set]; omega)] at q; cases q
  · rw [List.getElem?_set_ne ij] at q
    obtain ⟨u, a, b⟩ := h.look j e q
    exact ⟨u, by rw [List.getElem?_set_ne ij]; exact a, b⟩
/-- a new object at p that is still written to -/
abbrev And1 (S : Addr → Prop) (p : Addr) : Addr → Prop := fun a => S a ∨ a = p
theorem DG.and1 {o : HO} {p : Addr} (hp : H p = none) (h : DG S H v d) : DG (And1 S p) (L2.upd H p o) v d :=
  h.mono (My.Same.tups (same_new hp)) fun a u n e => ⟨fun z => z.elim n fun z => (by rw [z, hp] at e; cases e), by rw [upd_ne (ne_of_none e hp)]; exact e⟩
theorem SL.and1 {o : HO} {p : Addr} (hp : H p = none) (h : SL S H σ ρ) : SL (And1 S p) (L2.upd H p o) σ ρ :=
  ⟨fun a z => z.elim (fun z => in_same (same_new hp) h.dom a z) fun z w => (by rw [z, upd_same] at w; cases w), fun i d q => let ⟨v, a, b⟩ := h.look i d q; ⟨v, a, b.and1 hp⟩, h.len⟩
theorem DGs.un1 {p : Addr} {vs : List V} {ds : List PyData} (h : DGs (And1 S p) H vs ds) : DGs S H vs ds := h.mono (Tup.refl _) fun a o n e => ⟨fun z => n (.inl z), e⟩
theorem DGs.put {p : Addr} {xs ys : List V} {vs : List V} {ds : List PyData} (hp : H p = some (.lst xs)) (h : DGs (And1 S p) H vs ds) : DGs (And1 S p) (L2.upd H p (.lst ys)) vs ds :=
  h.mono (Tup.set hp) fun a o n e => ⟨n, by rw [upd_ne fun z => n (.inr z)]; exact e⟩
end
section
variable (X : Cx) (ρ : Rho)
def ED (e : Expr) (d : PyData) : Prop := ∀ (S : Addr → Prop) (σ : L2.St) (H : Hp) (Q : VK), SL S H σ ρ → (∀ v H', Same H H' → DG S H' v d → Q v H') → WE X e σ H Q
def TD (e : Expr) (b : Bool) : Prop := ∀ (S : Addr → Prop) (σ : L2.St) (H : Hp) (R : Bool → Hp → Prop), SL S H σ ρ → (∀ H', Same H H' → R b H') → WT X e σ H R
def WD (e : Expr) (b : Bool) : Prop := ∀ (S : Addr → Prop) (σ : L2.St) (H : Hp) (R : Bool → Hp → Prop), SL S H σ ρ → (∀ H', Same H H' → R b H') → WW X e σ H R
def AD (es : List Expr) (ds : List PyData) : Prop := ∀ (S : Addr → Prop) (σ : L2.St) (H : Hp) (U : List V → Hp → Prop), SL S H σ ρ → (∀ vs H', Same H H' → DGs S H' vs ds → U vs H') → WA X es σ H U
end
inductive Out | ret (d : PyData) | nx (ρ : Rho)
def Out.Is (S : Addr → Prop) (H : Hp) (D : Ends) : Out → Prop
  | .ret d => ∀ v H', Same H H' → DG S H' v d → D.rt v H'
  | .nx ρ' => ∀ σ' H', Same H H' → SL S H' σ' ρ' → D.nx σ' H'
def SD (X : Cx) (ρ : Rho) (st : Stmt) (o : Out) : Prop := ∀ (S : Addr → Prop) (σ : L2.St) (H : Hp) (D : Ends), SL S H σ ρ → o.Is S H D → WS X st D σ H
def LD (X : Cx) (ρ : Rho) (l : List Stmt) (o : Out) : Prop := ∀ (S : Addr → Prop) (σ : L2.St) (H : Hp) (D : Ends), SL S H σ ρ → o.Is S H D → WL X l D σ H
/-- the block of a comprehension -/
def BD (X : Cx) (scope : Scope) (ρ : Rho) (e : Expr) (d : PyData) : Prop := ∀ (s : Shared) (H0 : Hp) (C : Addr) (cl : List (Str × Addr)) (fp : List Addr), ED (X.blk s H0 scope (compEnvC scope cl C X.env) fp) ρ e d
section
variable {X : Cx} {ρ : Rho} {a b c e : Expr} {es rest : List Expr} {d d1 d2 : PyData} {ds : List PyData} {pos p p2 p3 pc pt : Pos} {x : Str} {k m : Bool}
theorem d_var (i : Nat) (h : ρ[i]? = some (some d) := by rfl) (hN : X.N[i]? = some x := by rfl) (hv : Vis X.env.scope x := by first | exact Or.inl rfl | exact Or.inr (Or.inl rfl) | exact Or.inr (Or.inr rfl))
    (hd : (x == ("__debug__" : Str)) = false := by decide) (hcd : (x == ("__classdict__" : Str)) = false := by decide) : ED X ρ (.Name x pos) d := fun S σ H Q sl q => by
  obtain ⟨v, e, g⟩ := sl.look i d h
  exact e_var i e (q v H (Same.refl _) g) hN hv hd hcd
theorem d_lit (h : Lit e d) : ED X ρ e d := fun S σ H Q sl q => e_lit h sl.dom q
theorem d_bl {j} (b : Bool) : ED X ρ (.Constant (.bool b) j pos) (.bool b) := d_lit (.bl b)
theorem d_int {j} (i : Int) : ED X ρ (.Constant (.int i) j pos) (.int i) := d_lit (.int i)
theorem d_str {j} (z : Str) : ED X ρ (.Constant (.str z) j pos) (.str z) := d_lit (.str z)
theorem d_non {j} : ED X ρ (.Constant .none j pos) .none := d_lit .non
theorem d_gint {i : Int} (hm : ∃ t, X.mg x = some (.int i t)) (hg : Gl X x := by rfl) (hd : (x == ("__debug__" : Str)) = false := by decide) : ED X ρ (.Name x pos) (.int i) := fun S σ H Q sl q => by
  obtain ⟨t, h⟩ := hm
  exact e_glob (v := .int i) h ⟨_, rfl⟩ (q _ H (Same.refl _) (.int i)) hg hd
theorem d_gstr {z : Str} (hm : ∃ t, X.mg x = some (.str z t)) (hg : Gl X x := by rfl) (hd : (x == ("__debug__" : Str)) = false := by decide) : ED X ρ (.Name x pos) (.str z) := fun S σ H Q sl q => by
  obtain ⟨t, h⟩ := hm
  exact e_glob (v := .str z) h ⟨_, rfl⟩ (q _ H (Same.refl _) (.str z)) hg hd
theorem ad_nil : AD X ρ [] [] := fun S σ H U sl q => a_nil (q [] H (Same.refl _) .nil)
theorem ad_cons (h : ED X ρ e d) (hs : AD X ρ es ds) (he : starEach (e :: es) X.env = (false, eval e X.env) :: starEach es X.env := by rfl) : AD X ρ (e :: es) (d :: ds) := fun S σ H U sl q =>
  a_cons (h S σ H _ sl fun v H1 s1 g1 => hs S σ H1 _ (sl.same s1) fun vs H2 s2 g2 => q (v :: vs) H2 (s1.trans s2) (.cons (g1.same s2) g2)) he
theorem d_tup {kk} (h : AD X ρ es ds) (l : ds.length ≤ 1000) : ED X ρ (.Tuple es kk pos) (.tuple ds) := fun S σ H Q sl q =>
  e_tup (h S σ H _ sl fun vs H1 s1 g1 => ⟨by rw [g1.length]; exact Nat.le_trans l (by decide), fun p hp => q _ _ (s1.trans (same_new hp)) (.tup upd_same (g1.same (same_new hp)))⟩)
theorem d_lst (h : AD X ρ es ds) (l : ds.length ≤ 1000) : ED X ρ (.List es pos) (.list ds) := fun S σ H Q sl q =>
  e_lst (h S σ H _ sl fun vs H1 s1 g1 => ⟨by rw [g1.length]; exact Nat.le_trans l (by decide), fun p hp => q _ _ (s1.trans (same_new hp)) (.lst upd_same (fun z => in_same s1 sl.dom p z hp) (g1.same (same_new hp)))⟩)
/-! and, or, not, if -/
theorem d_and {r : PyData} (h : ED X ρ a (.bool k)) (h1 : k = true → ED X ρ (.BoolOp .And (b :: rest) pos) (.bool m)) : ED X ρ (.BoolOp .And (a :: b :: rest) pos) (.bool (k && m)) := fun S σ H Q sl q =>
  e_and (h S σ H _ sl fun v H1 s1 g1 => by
    cases g1
    refine ⟨k, rfl, fun e => ?_, fun e => ?_⟩
    · rw [e, Bool.true_and] at q
      exact h1 e S σ H1 Q (sl.same s1) fun v H2 s2 g2 => q v H2 (s1.trans s2) g2
    · rw [e, Bool.false_and] at q
      exact q _ H1 s1 (.bl false))
theorem d_or (h : ED X ρ a (.bool k)) (h1 : k = false → ED X ρ (.BoolOp .Or (b :: rest) pos) (.bool m)) : ED X ρ (.BoolOp .Or (a :: b :: rest) pos) (.bool (k || m)) := fun S σ H Q sl q =>
  e_or (h S σ H _ sl fun v H1 s1 g1 => by
    cases g1
    refine ⟨k, rfl, fun e => ?_, fun e => ?_⟩
    · rw [e, Bool.true_or] at q
      exact q _ H1 s1 (.bl true)
    · rw [e, Bool.false_or] at q
      exact h1 e S σ H1 Q (sl.same s1) fun v H2 s2 g2 => q v H2 (s1.trans s2) g2)
theorem d_one {op} (h : ED X ρ a d) : ED X ρ (.BoolOp op [a] pos) d := fun S σ H Q sl q => e_one (h S σ H Q sl q)
theorem d_not (h : ED X ρ a (.bool k)) : ED X ρ (.UnaryOp .Not a pos) (.bool (!k)) := fun S σ H Q sl q => e_not (h S σ H _ sl fun v H1 s1 g1 => by cases g1; exact ⟨k, rfl, q _ H1 s1 (.bl _)⟩)
theorem d_if (h : TD X ρ c k) (h1 : k = true → ED X ρ a d) (h2 : k = false → ED X ρ b d) : ED X ρ (.IfExp c a b pos) d := fun S σ H Q sl q =>
  e_if (h S σ H _ sl fun H1 s1 => ⟨fun e => h1 e S σ H1 Q (sl.same s1) fun v H2 s2 g2 => q v H2 (s1.trans s2) g2, fun e => h2 e S σ H1 Q (sl.same s1) fun v H2 s2 g2 => q v H2 (s1.trans s2) g2⟩)
theorem td_val (h : ED X ρ a (.bool k)) (he : ∀ whole, isTrue a X.env whole = (do let v ← whole; standAt a.pos; holding [v] (truthy v)) := by intro _; rfl) : TD X ρ a k := fun S σ H R sl q =>
  t_val (h S σ H _ sl fun v H1 s1 g1 => by cases g1; exact ⟨k, rfl, q H1 s1⟩) he
theorem td_not (h : TD X ρ a k) : TD X ρ (.UnaryOp .Not a pos) (!k) := fun S σ H R sl q => t_not (h S σ H _ sl fun H1 s1 => q H1 s1)
theorem td_w (h : WD X ρ a k) : TD X ρ a k := fun S σ H R sl q => t_w (h S σ H R sl q)
theorem wd_and (h : TD X ρ a k) (h1 : k = true → WD X ρ (.BoolOp .And (b :: rest) pos) m) : WD X ρ (.BoolOp .And (a :: b :: rest) pos) (k && m) := fun S σ H R sl q =>
  w_and (h S σ H _ sl fun H1 s1 => ⟨fun e => h1 e S σ H1 R (sl.same s1) fun H2 s2 => by rw [e, Bool.true_and] at q; exact q H2 (s1.trans s2), fun e => by rw [e, Bool.false_and] at q; exact q H1 s1⟩)
theorem wd_or (h : TD X ρ a k) (h1 : k = false → WD X ρ (.BoolOp .Or (b :: rest) pos) m) : WD X ρ (.BoolOp .Or (a :: b :: rest) pos) (k || m) := fun S σ H R sl q =>
  w_or (h S σ H _ sl fun H1 s1 => ⟨fun e => by rw [e, Bool.true_or] at q; exact q H1 s1, fun e => h1 e S σ H1 R (sl.same s1) fun H2 s2 => by rw [e, Bool.false_or] at q; exact q H2 (s1.trans s2)⟩)
theorem wd_and1 (h : TD X ρ a k) : WD X ρ (.BoolOp .And [a] pos) k := fun S σ H R sl q => w_and1 (h S σ H R sl q)
theorem wd_or1 (h : TD X ρ a k) : WD X ρ (.BoolOp .Or [a] pos) k := fun S σ H R sl q => w_or1 (h S σ H R sl q)
/-! comparisons -/
def rP (P : PyData → PyData → Bool → Prop) : R2 := fun x y H Q => ∃ S d e b, DG S H x d ∧ DG S H y e ∧ P d e b ∧ Q (.bl b) H
variable {op : CmpOp} {P P' : PyData → PyData → Bool → Prop}
theorem d_cmp (ho : OpR X (compareOp op) (rP P)) (ha : ED X ρ a d1) (hb : ED X ρ b d2) (hp : P d1 d2 k) (hm : behindInMarks op b = false := by first | exact nomark _ | with_unfolding_all rfl) : ED X ρ (.Compare a [op] [b] pos) (.bool k) := fun S σ H Q sl q =>
  e_cmp ho (ha S σ H _ sl fun v H1 s1 g1 => hb S σ H1 _ (sl.same s1) fun u H2 s2 g2 => ⟨S, d1, d2, k, g1.same s2, g2, hp, q _ H2 (s1.trans s2) (.bl k)⟩) hm
theorem td_cmp (ho : OpR X (compareOp op) (rP P)) (ha : ED X ρ a d1) (hb : ED X ρ b d2) (hp : P d1 d2 k) (hm : behindInMarks op b = false := by first | exact nomark _ | with_unfolding_all rfl) : TD X ρ (.Compare a [op] [b] pos) k := fun S σ H R sl q =>
  t_cmp ho (ha S σ H _ sl fun v H1 s1 g1 => hb S σ H1 _ (sl.same s1) fun u H2 s2 g2 => ⟨S, d1, d2, k, g1.same s2, g2, hp, k, rfl, q H2 (s1.trans s2)⟩) hm
def pEqS : PyData → PyData → Bool → Prop := fun d e b => ∃ z, e = .str z ∧ b = eqS d z
def pNeS : PyData → PyData → Bool → Prop := fun d e b => ∃ z, e = .str z ∧ b = !eqS d z
def pInt (f : Int → Int → Bool) : PyData → PyData → Bool → Prop := fun d e b => ∃ i j, d = .int i ∧ e = .int j ∧ b = f i j
def pEqD : PyData → PyData → Bool → Prop := fun d e b => SeqAt.shaped d = true ∧ SeqAt.shaped e = true ∧ b = PyData.eqv d e
def pNeD : PyData → PyData → Bool → Prop := fun d e b => SeqAt.shaped d = true ∧ SeqAt.shaped e = true ∧ b = !PyData.eqv d e
theorem o_eqS (hu : X.A.units + 64 < cLine) : OpR X (compareOp .Eq) (rP pEqS) := fun pins s σ H x y v u Q I rx ry ⟨S, d, e, b, g1, g2, ⟨z, e1, e2⟩, q⟩ => by
  subst e1 e2
  cases g2
  exact op_eqS hu pins s σ H _ _ v u Q I rx ry ⟨S, d, z, g1, rfl, q⟩
theorem o_neS (hu : X.A.units + 64 < cLine) : OpR X (compareOp .NotEq) (rP pNeS) := fun pins s σ H x y v u Q I rx ry ⟨S, d, e, b, g1, g2, ⟨z, e1, e2⟩, q⟩ => by
  subst e1 e2
  cases g2
  exact op_neS hu pins s σ H _ _ v u Q I rx ry ⟨S, d, z, g1, rfl, q⟩
theorem dec_i {i j : Int} : decide (V.int i = V.int j) = decide (i = j) := by
  apply Bool.eq_iff_iff.mpr
  rw [decide_eq_true_eq, decide_eq_true_eq]
  exact ⟨fun e => by injection e, fun e => by rw [e]⟩
theorem o_eqI : OpR X (compareOp .Eq) (rP (pInt fun i j => decide (i = j))) := fun pins s σ H x y v u Q I rx ry ⟨S, d, e, b, g1, g2, ⟨i, j, e1, e2, e3⟩, q⟩ => by
  subst e1 e2 e3
  cases g1; cases g2
  exact op_eq pins s σ H _ _ v u Q I rx ry ⟨rfl, by rw [dec_i]; exact q⟩
theorem o_neI : OpR X (compareOp .NotEq) (rP (pInt fun i j => !decide (i = j))) := fun pins s σ H x y v u Q I rx ry ⟨S, d, e, b, g1, g2, ⟨i, j, e1, e2, e3⟩, q⟩ => by
  subst e1 e2 e3
  cases g1; cases g2
  exact op_ne pins s σ H _ _ v u Q I rx ry ⟨rfl, by rw [dec_i]; exact q⟩
theorem o_lt : OpR X (compareOp .Lt) (rP (pInt fun i j => decide (i < j))) := fun pins s σ H x y v u Q I rx ry ⟨S, d, e, b, g1, g2, ⟨i, j, e1, e2, e3⟩, q⟩ => by
  subst e1 e2 e3
  cases g1; cases g2
  exact op_lt pins s σ H _ _ v u Q I rx ry ⟨i, j, rfl, rfl, q⟩
theorem o_le : OpR X (compareOp .LtE) (rP (pInt fun i j => decide (i ≤ j))) := fun pins s σ H x y v u Q I rx ry ⟨S, d, e, b, g1, g2, ⟨i, j, e1, e2, e3⟩, q⟩ => by
  subst e1 e2 e3
  cases g1; cases g2
  exact op_le pins s σ H _ _ v u Q I rx ry ⟨i, j, rfl, rfl, q⟩
theorem o_gt : OpR X (compareOp .Gt) (rP (pInt fun i j => decide (j < i))) := fun pins s σ H x y v u Q I rx ry ⟨S, d, e, b, g1, g2, ⟨i, j, e1, e2, e3⟩, q⟩ => by
  subst e1 e2 e3
  cases g1; cases g2
  exact op_gt pins s σ H _ _ v u Q I rx ry ⟨i, j, rfl, rfl, q⟩
theorem o_ge : OpR X (compareOp .GtE) (rP (pInt fun i j => decide (j ≤ i))) := fun pins s σ H x y v u Q I rx ry ⟨S, d, e, b, g1, g2, ⟨i, j, e1, e2, e3⟩, q⟩ => by
  subst e1 e2 e3
  cases g1; cases g2
  exact op_ge pins s σ H _ _ v u Q I rx ry ⟨i, j, rfl, rfl, q⟩
mutual
theorem DG.lay {K : PySem.W.Frag} {S : Addr → Prop} {H : Hp} : ∀ {v : V} {d : PyData}, DG S H v d → d.canLay0 = true → Dp K H v d
  | _, _, .non, _ => .non
  | _, _, .bl b, _ => .bl b
  | _, _, .int i, _ => .int i
  | _, _, .str x, _ => .str x
  | _, _, .tup h hs, n => .tup (.inl (.inl h)) (DGs.lay hs n)
  | _, _, .lst h _ hs, n => .lst (.inl (.inl h)) (DGs.lay hs n)
  | _, _, .dct h _ hs, n => by cases n
theorem DGs.lay {K : PySem.W.Frag} {S : Addr → Prop} {H : Hp} : ∀ {vs : List V} {ds : List PyData}, DGs S H vs ds → PyData.canLayAll0 ds = true → DpAll K H vs ds
  | _, _, .nil, _ => .nil
  | _, _, .cons h hs, n => by
    have n' : (_ && _) = true := n
    rw [Bool.and_eq_true] at n'
    exact .cons (DG.lay h n'.1) (DGs.lay hs n'.2)
end
theorem o_eqD (hu : X.A.units + 64 < cLine) : OpR X (compareOp .Eq) (rP pEqD) := fun pins s σ H x y v u Q I rx ry ⟨S, d, e, b, g1, g2, ⟨e1, e2, e3⟩, q⟩ => by
  subst e3
  exact op_eqD hu pins s σ H _ _ v u Q I rx ry ⟨d, e, g1.lay (SeqAt.canLay_of_shaped e1), g2.lay (SeqAt.canLay_of_shaped e2), e1, e2, q⟩
theorem o_neD (hu : X.A.units + 64 < cLine) : OpR X (compareOp .NotEq) (rP pNeD) := fun pins s σ H x y v u Q I rx ry ⟨S, d, e, b, g1, g2, ⟨e1, e2, e3⟩, q⟩ => by
  subst e3
  exact op_neD hu pins s σ H _ _ v u Q I rx ry ⟨d, e, g1.lay (SeqAt.canLay_of_shaped e1), g2.lay (SeqAt.canLay_of_shaped e2), e1, e2, q⟩
/-- a <= b <= c, ints -/
theorem td_btw {i j l : Int} (ha : ED X ρ a (.int i)) (hb : ED X ρ b (.int j)) (hc : i ≤ j → ED X ρ c (.int l)) (hm : lastMarks [.LtE, .LtE] [b, c] = false := by with_unfolding_all rfl) : TD X ρ (.Compare a [.LtE, .LtE] [b, c] pos) (decide (i ≤ j) && decide (j ≤ l)) := fun S σ H R sl q =>
  t_btw (ha S σ H _ sl fun v H1 s1 g1 => hb S σ H1 _ (sl.same s1) fun u H2 s2 g2 => by
    cases g1; cases g2
    refine ⟨i, j, rfl, rfl, fun h => hc h S σ H2 _ (sl.same (s1.trans s2)) fun w H3 s3 g3 => ?_, fun h => ?_⟩
    · cases g3
      rw [decide_eq_true h, Bool.true_and] at q
      exact ⟨l, rfl, q H3 (s1.trans (s2.trans s3))⟩
    · rw [decide_eq_false h, Bool.false_and] at q
      exact q H2 (s1.trans s2)) hm
def isNone : PyData → Bool | .none => true | _ => false
theorem d_isN {j} (h : ED X ρ a d) : ED X ρ (.Compare a [.Is] [.Constant .none j p] pos) (.bool (isNone d)) := fun S σ H Q sl q =>
  e_cmp op_isN (h S σ H _ sl fun v H1 s1 g1 => e_non ⟨rfl, by
    have e : decide (v = V.non) = isNone d := by cases g1 <;> rfl
    rw [e]
    exact q _ H1 s1 (.bl _)⟩) (by first | exact nomark _ | rfl)
theorem td_isN {j} (h : ED X ρ a d) : TD X ρ (.Compare a [.Is] [.Constant .none j p] pos) (isNone d) := fun S σ H R sl q =>
  t_cmp op_isN (h S σ H _ sl fun v H1 s1 g1 => e_non ⟨rfl, by
    have e : decide (v = V.non) = isNone d := by cases g1 <;> rfl
    rw [e]
    exact ⟨_, rfl, q H1 s1⟩⟩) (by first | exact nomark _ | rfl)
/-! built-ins -/
theorem d_isTup (hi : X.mg "isinstance" = none) (hT : X.mg "tuple" = none) (h : ED X ρ e d) (hg : Gl X "isinstance" := by rfl) (hgT : Gl X "tuple" := by rfl)
    (he : starEach [e, .Name "tuple" p2] X.env = (false, eval e X.env) :: starEach [.Name "tuple" p2] X.env := by rfl) : ED X ρ (.Call (.Name "isinstance" p) [e, .Name "tuple" p2] [] pos) (.bool (isTup d)) := fun S σ H Q sl q =>
  e_isi hi hT PyProof.Rows.boot_tuple (h S σ H _ sl fun v H1 s1 g1 => ⟨tyD d, isTup d, g1.ty, kit_tup d, q _ H1 s1 (.bl _)⟩) hg hgT (by decide) (by decide) he rfl rfl
theorem d_isStr (hi : X.mg "isinstance" = none) (hT : X.mg "str" = none) (h : ED X ρ e d) (hg : Gl X "isinstance" := by rfl) (hgT : Gl X "str" := by rfl)
    (he : starEach [e, .Name "str" p2] X.env = (false, eval e X.env) :: starEach [.Name "str" p2] X.env := by rfl) : ED X ρ (.Call (.Name "isinstance" p) [e, .Name "str" p2] [] pos) (.bool (isStr d)) := fun S σ H Q sl q =>
  e_isi hi hT PyProof.Rows.boot_str (h S σ H _ sl fun v H1 s1 g1 => ⟨tyD d, isStr d, g1.ty, kit_str d, q _ H1 s1 (.bl _)⟩) hg hgT (by decide) (by decide) he rfl rfl
theorem d_isBool (hi : X.mg "isinstance" = none) (hT : X.mg "bool" = none) (h : ED X ρ e d) (hg : Gl X "isinstance" := by rfl) (hgT : Gl X "bool" := by rfl)
    (he : starEach [e, .Name "bool" p2] X.env = (false, eval e X.env) :: starEach [.Name "bool" p2] X.env := by rfl) : ED X ρ (.Call (.Name "isinstance" p) [e, .Name "bool" p2] [] pos) (.bool (isBoo d)) := fun S σ H Q sl q =>
  e_isi hi hT (by decide +kernel) (h S σ H _ sl fun v H1 s1 g1 => ⟨tyD d, isBoo d, g1.ty, kit_boo d, q _ H1 s1 (.bl _)⟩) hg hgT (by decide) (by decide) he rfl rfl
theorem DG.seq {K : PySem.W.Frag} {S : Addr → Prop} {H : Hp} {v : V} {ds : List PyData} (h : DG S H v (.tuple ds)) : ∃ a xs, v = .ref a ∧ H a = some (.tup xs) ∧ DGs S H xs ds ∧ SqT K H a xs := by
  cases h with | tup h hs => exact ⟨_, _, rfl, h, hs, .inl (.inl h)⟩
theorem DG.seqL {K : PySem.W.Frag} {S : Addr → Prop} {H : Hp} {v : V} {ds : List PyData} (h : DG S H v (.list ds)) : ∃ a xs, v = .ref a ∧ H a = some (.lst xs) ∧ DGs S H xs ds ∧ SqL K H a xs := by
  cases h with | lst h _ hs => exact ⟨_, _, rfl, h, hs, .inl (.inl h)⟩
theorem d_len (hm : X.mg "len" = none) (h : ED X ρ e (.tuple ds)) (hg : Gl X "len" := by rfl)
    (he : starEach [e] X.env = (false, eval e X.env) :: starEach [] X.env := by rfl) : ED X ρ (.Call (.Name "len" p) [e] [] pos) (.int ds.length) := fun S σ H Q sl q =>
  e_len hm (h S σ H _ sl fun v H1 s1 g1 => by
    obtain ⟨a, xs, rfl, _, hs, sq⟩ := g1.seq (K := X.K)
    exact ⟨a, xs, rfl, .inr sq, by rw [hs.length]; exact q _ H1 s1 (.int _)⟩) hg he rfl
theorem d_lenL (hm : X.mg "len" = none) (h : ED X ρ e (.list ds)) (hg : Gl X "len" := by rfl)
    (he : starEach [e] X.env = (false, eval e X.env) :: starEach [] X.env := by rfl) : ED X ρ (.Call (.Name "len" p) [e] [] pos) (.int ds.length) := fun S σ H Q sl q =>
  e_len hm (h S σ H _ sl fun v H1 s1 g1 => by
    obtain ⟨a, xs, rfl, _, hs, sq⟩ := g1.seqL (K := X.K)
    exact ⟨a, xs, rfl, .inl sq, by rw [hs.length]; exact q _ H1 s1 (.int _)⟩) hg he rfl
theorem d_lenS {z : Str} (hm : X.mg "len" = none) (hz : z.length ≤ sizeLine) (h : ED X ρ e (.str z)) (hg : Gl X "len" := by rfl)
    (he : starEach [e] X.env = (false, eval e X.env) :: starEach [] X.env := by rfl) : ED X ρ (.Call (.Name "len" p) [e] [] pos) (.int z.length) := fun S σ H Q sl q =>
  e_lenS hm (h S σ H _ sl fun v H1 s1 g1 => by cases g1; exact ⟨z, rfl, hz, q _ H1 s1 (.int _)⟩) hg he rfl
theorem d_ix {i : Nat} (ha : ED X ρ a (.tuple ds)) (hb : ED X ρ b (.int i)) (hi : ds[i]? = some d) (hs : PlainIx b := by exact fun _ _ => rfl) : ED X ρ (.Subscript a b pos) d := fun S σ H Q sl q =>
  e_ixT (ha S σ H _ sl fun v H1 s1 g1 => hb S σ H1 _ (sl.same s1) fun u H2 s2 g2 => by
    cases g2
    obtain ⟨a, xs, rfl, _, hs, sq⟩ := (g1.same s2).seq (K := X.K)
    obtain ⟨w, hw, gw⟩ : ∃ w, xs[i]? = some w ∧ DG S H2 w d := by
      have hl := hs.length
      have lt : i < xs.length := by rw [hl]; exact (List.getElem?_eq_some_iff.mp hi).1
      obtain ⟨d', e1, e2⟩ := hs.get (List.getElem?_eq_getElem lt)
      rw [hi] at e1
      cases e1
      exact ⟨_, List.getElem?_eq_getElem lt, e2⟩
    exact ⟨a, xs, i, w, rfl, rfl, sq, atI_nat hw, q _ H2 (s1.trans s2) gw⟩) hs
theorem d_ixL {i : Nat} (ha : ED X ρ a (.list ds)) (hb : ED X ρ b (.int i)) (hi : ds[i]? = some d) (hs : PlainIx b := by exact fun _ _ => rfl) : ED X ρ (.Subscript a b pos) d := fun S σ H Q sl q =>
  e_ixL (ha S σ H _ sl fun v H1 s1 g1 => hb S σ H1 _ (sl.same s1) fun u H2 s2 g2 => by
    cases g2
    obtain ⟨a, xs, rfl, _, hs, sq⟩ := (g1.same s2).seqL (K := X.K)
    obtain ⟨w, hw, gw⟩ : ∃ w, xs[i]? = some w ∧ DG S H2 w d := by
      have hl := hs.length
      have lt : i < xs.length := by rw [hl]; exact (List.getElem?_eq_some_iff.mp hi).1
      obtain ⟨d', e1, e2⟩ := hs.get (List.getElem?_eq_getElem lt)
      rw [hi] at e1
      cases e1
      exact ⟨_, List.getElem?_eq_getElem lt, e2⟩
    exact ⟨a, xs, i, w, rfl, rfl, sq, atI_nat hw, q _ H2 (s1.trans s2) gw⟩) hs
theorem d_repr (hm : X.mg "repr" = none) (hG : X.A.guards = some []) (hu : X.A.units + 64 < cLine) (h : ED X ρ e d) (hd : d.showable = true ∧ d.depth ≤ 60 ∧ d.shown.length ≤ sizeLine) (hg : Gl X "repr" := by rfl)
    (he : starEach [e] X.env = (false, eval e X.env) :: starEach [] X.env := by rfl) : ED X ρ (.Call (.Name "repr" p) [e] [] pos) (.str d.shown) := fun S σ H Q sl q =>
  e_reprA hm hG hu (h S σ H _ sl fun v H1 s1 g1 => ⟨S, d, g1, hd.1, hd.2.1, hd.2.2, q _ H1 s1 (.str _)⟩) hg he rfl
theorem d_tupL (hm : X.mg "tuple" = none) (h : ED X ρ e (.list ds)) (hg : Gl X "tuple" := by rfl)
    (he : starEach [e] X.env = (false, eval e X.env) :: starEach [] X.env := by rfl) : ED X ρ (.Call (.Name "tuple" p) [e] [] pos) (.tuple ds) := fun S σ H Q sl q =>
  e_tupL hm (h S σ H _ sl fun v H1 s1 g1 => by
    obtain ⟨a, xs, rfl, _, hs, sq⟩ := g1.seqL (K := X.K)
    exact ⟨a, xs, rfl, sq, fun t ht => q _ _ (s1.trans (same_new ht)) (.tup upd_same (hs.same (same_new ht)))⟩) hg he rfl
theorem d_listT (hm : X.mg "list" = none) (h : ED X ρ e (.tuple ds)) (hg : Gl X "list" := by rfl)
    (he : starEach [e] X.env = (false, eval e X.env) :: starEach [] X.env := by rfl) : ED X ρ (.Call (.Name "list" p) [e] [] pos) (.list ds) := fun S σ H Q sl q =>
  e_listL hm (h S σ H _ sl fun v H1 s1 g1 => by
    obtain ⟨a, xs, rfl, _, hs, sq⟩ := g1.seq (K := X.K)
    exact ⟨a, xs, rfl, .inr sq, fun t ht => q _ _ (s1.trans (same_new ht)) (.lst upd_same (fun z => in_same s1 sl.dom t z ht) (hs.same (same_new ht)))⟩) hg he rfl
theorem bools_of {S : Addr → Prop} {H : Hp} : ∀ {xs : List V} {bs : List Bool}, DGs S H xs (bs.map PyData.bool) → xs = bs.map V.bl
  | _, [], .nil => rfl
  | _, b :: bs, .cons h hs => by
    cases h
    rw [bools_of hs]; rfl
theorem strsE {S : Addr → Prop} {H : Hp} : ∀ {xs : List V} {zs : List Str}, DGs S H xs (zs.map PyData.str) → xs = zs.map V.str
  | _, [], .nil => rfl
  | _, z :: zs, .cons h hs => by
    cases h
    rw [strsE hs]; rfl
theorem d_all {bs : List Bool} (hm : X.mg "all" = none) (h : ED X ρ e (.list (bs.map PyData.bool))) (hgl : Gl X "all" := by rfl) (hc : X.calm = true := by rfl)
    (he : starEach [e] X.env = (false, eval e X.env) :: starEach [] X.env := by rfl) : ED X ρ (.Call (.Name "all" p) [e] [] pos) (.bool (bs.all id)) := fun S σ H Q sl q =>
  e_callB (cr_all hc) hm (by decide +kernel) (a_cons (h S σ H _ sl fun v H1 s1 g1 => by
    obtain ⟨a, xs, rfl, _, hs, sq⟩ := g1.seqL (K := X.K)
    rw [bools_of hs] at sq
    exact a_nil ⟨a, bs, rfl, sq, q _ H1 s1 (.bl _)⟩) he) hgl (by decide) (by decide) he rfl
theorem d_any {bs : List Bool} (hm : X.mg "any" = none) (h : ED X ρ e (.list (bs.map PyData.bool))) (hgl : Gl X "any" := by rfl) (hc : X.calm = true := by rfl)
    (he : starEach [e] X.env = (false, eval e X.env) :: starEach [] X.env := by rfl) : ED X ρ (.Call (.Name "any" p) [e] [] pos) (.bool (bs.any id)) := fun S σ H Q sl q =>
  e_callB (cr_any hc) hm (by decide +kernel) (a_cons (h S σ H _ sl fun v H1 s1 g1 => by
    obtain ⟨a, xs, rfl, _, hs, sq⟩ := g1.seqL (K := X.K)
    rw [bools_of hs] at sq
    exact a_nil ⟨a, bs, rfl, sq, q _ H1 s1 (.bl _)⟩) he) hgl (by decide) (by decide) he rfl
/-- len(set(..)) of texts -/
theorem d_lenSet {zs : List Str} (hm : X.mg "len" = none) (hm2 : X.mg "set" = none) (h : ED X ρ a (.list (zs.map PyData.str)) ∨ ED X ρ a (.tuple (zs.map PyData.str))) (hl : zs.length ≤ 1000) (hc : X.calm = true := by rfl) (hg : Gl X "len" := by rfl) (hg2 : Gl X "set" := by rfl)
    (na : starEach [a] X.env = (false, eval a X.env) :: starEach [] X.env := by rfl) : ED X ρ (.Call (.Name "len" p) [.Call (.Name "set" p2) [a] [] p3] [] pos) (.int (cnt zs zs.length)) := fun S σ H Q sl q => by
  refine e_lenSet hm hm2 ?_ hc hg hg2 na
  rcases h with h | h
  · exact h S σ H _ sl fun v H1 s1 g1 => by
      obtain ⟨a, xs, rfl, _, hs, sq⟩ := g1.seqL (K := X.K)
      rw [strsE hs] at sq
      exact ⟨a, zs, rfl, .inl sq, hl, q _ H1 s1 (.int _)⟩
  · exact h S σ H _ sl fun v H1 s1 g1 => by
      obtain ⟨a, xs, rfl, _, hs, sq⟩ := g1.seq (K := X.K)
      rw [strsE hs] at sq
      exact ⟨a, zs, rfl, .inr sq, hl, q _ H1 s1 (.int _)⟩
/-! list comprehensions over a tuple, a list -/
section
variable {elt iter : Expr} {scope : Scope}
theorem d_lcT {n : Nat} (j : Nat) (f : PyData → PyData) (hN : X.N.Nodup) (okb : BlkOk X.N X.env.scope scope [(x, j)]) (h : ED X ρ iter (.tuple ds)) (l : ds.length ≤ 1000) (hel : ∀ d ∈ ds, BD X scope (ρ.set j (some d)) elt (f d))
    (hg : ∀ (s : Shared) (H : Hp) (C : Addr) (cl : List (Str × Addr)) (fp : List Addr), PG (X.blk s H scope (compEnvC scope cl C X.env) fp) (.Name x pt) (gName j))
    (hc : X.calm = true := by rfl) (hs : ∀ z, foldedSetIterable iter X.env z = pure z := by intro _; rfl) : ED X ρ (.ListComp elt [⟨.Name x pt, iter, [], 0⟩] scope pos) (.list (ds.map f)) := fun S σ H Q sl q => by
  refine e_lcT j hN okb (h S σ H _ sl fun v H1 s1 g1 => ?_) hg hc hs
  obtain ⟨a, xs, rfl, ha, hds, sq⟩ := g1.seq (K := X.K)
  refine ⟨a, xs, rfl, sq, fun D nD => ?_⟩
  have sl1 := sl.same s1
  have slD := sl1.and1 (o := .lst []) nD
  have hdsD := hds.mono (T := And1 S D) (My.Same.tups (same_new (o := .lst []) nD)) fun a u n e => ⟨fun z => z.elim n fun z => (by rw [z, nD] at e; cases e), by rw [upd_ne (ne_of_none e nD)]; exact e⟩
  have lx := hds.length
  refine ⟨fun i H' => ∃ ys, (∀ b o, b ≠ D → (L2.upd H1 D (.lst [])) b = some o → H' b = some o) ∧ H' D = some (.lst ys) ∧ ys.length = i ∧ DGs (And1 S D) H' ys ((ds.take i).map f), ?_, ?_, ?_, ?_⟩
  · exact ⟨[], fun b o _ e => e, upd_same, rfl, .nil⟩
  · rintro i H' _ ⟨ys, k1, _⟩
    exact .inl (.inl (k1 a _ (ne_of_none ha nD) (same_new nD _ _ ha)))
  · rintro i y H' hi ⟨ys, k1, k2, k3, k4⟩ s0 H00 C cl fp
    obtain ⟨d, hd, hy⟩ := hdsD.get hi
    have keep : ∀ {v : V} {d : PyData}, DG (And1 S D) (L2.upd H1 D (.lst [])) v d → DG (And1 S D) H' v d := fun g => g.mono (fun b xs e => k1 b _ (ne_of e upd_same (fun z => by cases z)) e) fun a o n e => ⟨n, k1 a o (fun z => n (.inr z)) e⟩
    have slp : SL (And1 S D) H' σ ρ := ⟨fun b z w => by
      cases e : (L2.upd H1 D (.lst [])) b with
      | none => exact slD.dom b z e
      | some o =>
        by_cases bD : b = D
        · rw [bD, k2] at w; cases w
        · (rw [k1 b o bD e] at w; cases w), fun i d q => let ⟨v, a, b⟩ := slD.look i d q; ⟨v, a, keep b⟩, slD.len⟩
    have sl2 := SL.set (i := j) slp (keep hy)
    have ew : (L2.wipe σ [j]).set j (some y) = σ.set j (some y) := by show (σ.set j none).set j (some y) = _; rw [List.set_set]
    rw [ew]
    refine hel d (List.mem_of_getElem? hd) s0 H00 C cl fp (And1 S D) _ H' _ sl2 fun z H4 s4 g4 => ?_
    have h4 := s4 _ _ k2
    refine ⟨ys, h4, by rw [k3]; exact Nat.lt_of_lt_of_le (show i < 1001 by have := (List.getElem?_eq_some_iff.mp hd).1; omega) (by decide), ys ++ [z], fun b o n e => ?_, upd_same, by rw [List.length_append, k3]; rfl, ?_⟩
    · rw [upd_ne n]; exact s4 _ _ (k1 b o n e)
    · have lt : i < ds.length := (List.getElem?_eq_some_iff.mp hd).1
      have e : ds[i] = d := by rw [List.getElem?_eq_getElem lt] at hd; exact Option.some.inj hd
      rw [List.take_succ_eq_append_getElem lt, List.map_append, e]
      exact ((k4.same s4).append (.cons g4 .nil)).put h4
  · rintro H' ⟨ys, k1, k2, k3, k4⟩
    rw [lx, List.take_length] at k4
    refine q _ H' (s1.trans fun b o e => k1 b o (ne_of_none e nD) (same_new nD b o e)) (.lst k2 (fun z => sl1.dom D z nD) k4.un1)
end
/-! calls of defs by their promise on data -/
def spD (F : List PyData → Option PyData) : Sp := fun vs H Q _ => ∃ S ds d, DGs S H vs ds ∧ (∀ a, S a → H a ≠ none) ∧ F ds = some d ∧ ∀ v H', Same H H' → DG S H' v d → Q v H'
theorem d_call {kk j : Nat} {F : List PyData → Option PyData} (cF : CalN X.prog X.w X.K X.mg X.base kk x (spD F)) (hr : Room j X.A) (hk : kk ≤ j) (h : AD X ρ (e :: es) ds) (hF : F ds = some d) (hg : Gl X x := by rfl)
    (hdb : (x == ("__debug__" : Str)) = false := by decide) (he : starEach (e :: es) X.env = (false, eval e X.env) :: starEach es X.env := by rfl) (hpl : (backTo pos (starEach es X.env)).any (·.1) = false := by rfl) : ED X ρ (.Call (.Name x p) (e :: es) [] pos) d := fun S σ H Q sl q =>
  e_c cF hr hk (h S σ H _ sl fun vs H1 s1 g1 => by
    rw [List.append_nil]
    exact ⟨S, ds, d, g1, in_same s1 sl.dom, hF, fun v H2 s2 g2 => q v H2 (s1.trans s2) g2⟩) hg hdb he hpl
/-! statements -/
variable {st : Stmt} {l l1 l2 : List Stmt} {o : Out} {ρ1 : Rho}
theorem ld_nil : LD X ρ [] (.nx ρ) := fun S σ H D sl q => l_nil (q σ H (Same.refl _) sl)
theorem ld_cons (h : SD X ρ st (.nx ρ1)) (hs : LD X ρ1 l o) : LD X ρ (st :: l) o := fun S σ H D sl q =>
  l_cons (h S σ H _ sl fun σ1 H1 s1 sl1 => hs S σ1 H1 D sl1 (by
    cases o with
    | ret d => exact fun v H2 s2 g2 => q v H2 (s1.trans s2) g2
    | nx ρ2 => exact fun σ2 H2 s2 g2 => q σ2 H2 (s1.trans s2) g2))
theorem ld_end (h : SD X ρ st (.ret d)) : LD X ρ (st :: l) (.ret d) := fun S σ H D sl q => l_cons (h S σ H _ sl fun v H1 s1 g1 => q v H1 s1 g1)
theorem sd_ret (h : ED X ρ e d) : SD X ρ (.Return (some e) pos) (.ret d) := fun S σ H D sl q => s_ret (h S σ H _ sl q)
theorem sd_if (h : TD X ρ c k) (h1 : k = true → LD X ρ l1 o) (h2 : k = false → LD X ρ l2 o) : SD X ρ (.If c l1 l2 pos) o := fun S σ H D sl q =>
  s_if (h S σ H _ sl fun H1 s1 => by
    have q1 : o.Is S H1 D := by
      cases o with
      | ret d => exact fun v H2 s2 g2 => q v H2 (s1.trans s2) g2
      | nx ρ2 => exact fun σ2 H2 s2 g2 => q σ2 H2 (s1.trans s2) g2
    exact ⟨fun e => h1 e S σ H1 D (sl.same s1) q1, fun e => h2 e S σ H1 D (sl.same s1) q1⟩)
/-- if c: return d1 -/
theorem ld_ifret (h : TD X ρ c k) (h1 : k = true → LD X ρ l1 (.ret d)) (h2 : k = false → LD X ρ l (.ret d)) : LD X ρ (.If c l1 [] pos :: l) (.ret d) := by
  cases k with
  | true => exact ld_end (sd_if h h1 (fun e => by cases e))
  | false => exact ld_cons (sd_if h (fun e => by cases e) fun _ => ld_nil) (h2 rfl)
theorem sd_set (i : Nat) (h : ED X ρ e d) (hN : X.N.Nodup) (hi : X.N[i]? = some x := by rfl) (hx : Loc X.env.scope x := by first | exact Or.inl rfl | exact Or.inr rfl)
    (hs : swapsWith e (some (.Name x p)) pos.line X.env = pure false := by rfl) (hf : X.fn x = true ∨ X.env.scope.names.lookup x = some .local := by first | exact .inl rfl | exact .inr rfl | assumption) : SD X ρ (.Assign [.Name x p] e pos) (.nx (ρ.set i (some d))) := fun S σ H D sl q =>
  s_set i (h S σ H _ sl fun v H1 s1 g1 => q _ H1 s1 ((sl.same s1).set g1)) hN hi hx hs hf
end
end My

namespace My
open PySem PySem.Spec PyProof.Rows L2
/-! ### defs by their promise on data -/
def startD (N : List Str) (ds : List PyData) : Rho := ds.map some ++ List.replicate (N.length - ds.length) none
theorem sl_start {S : Addr → Prop} {H : Hp} {N : List Str} {vs : List V} {ds : List PyData} (h : DGs S H vs ds) (hS : ∀ a, S a → H a ≠ none) : SL S H (L2.start N vs) (startD N ds) := by
  have hl := h.length
  refine ⟨hS, fun i d q => ?_, ?_⟩
  · unfold startD at q
    by_cases lt : i < ds.length
    · rw [List.getElem?_append_left (by rw [List.length_map]; exact lt), List.getElem?_map] at q
      have lv : i < vs.length := by omega
      obtain ⟨d', e1, e2⟩ := h.get (List.getElem?_eq_getElem lv)
      rw [e1] at q
      cases q
      refine ⟨vs[i], ?_, e2⟩
      unfold L2.start
      rw [List.getElem?_append_left (by rw [List.length_map]; exact lv), List.getElem?_map, List.getElem?_eq_getElem lv]
      rfl
    · rw [List.getElem?_append_right (by rw [List.length_map]; omega), List.getElem?_replicate] at q
      split at q <;> cases q
  · unfold L2.start startD
    rw [List.length_append, List.length_append, List.length_map, List.length_map, List.length_replicate, List.length_replicate, hl]
theorem Fun.okD {P : Program} {w : World} {K : PySem.W.Frag} {mg : Str → Option Value} {base : Heap} {x qual : Str} {st : Stmt} {f : Addr} {fd : FuncData} {N ps : List Str} {k : Nat} {Fn : List PyData → Option PyData} (F : Fun K x qual st f fd) (S : FnScope N ps (defScope st))
    (len : ∀ ds d, Fn ds = some d → ds.length = ps.length)
    (body : ∀ (cdv : Value) (B : Around) (out : List Env) (s : Shared) (H : Hp) (E : XK) (ds : List PyData) (d : PyData), Room k (B.deeper (envOfC qual (defScope st) s.heap.objs.size f cdv)) → Fn ds = some d →
      LD (cxOf CX0 P w K mg base N qual (defScope st) f cdv B out s H E).nox (startD N ds) (defBody st) (.ret d)) : FnOk P w K mg base CX0 (k + 1) f fd ps (spD Fn) :=
  Fun.okW F S (fun vs H Q E ⟨S0, ds, d, g, _, e, _⟩ => by rw [g.length]; exact len ds d e) fun cdv B out s H vs Q E hr ⟨S0, ds, d, g, hS, e, q⟩ =>
    body cdv B out s H E ds d hr e S0 _ H _ (sl_start g hS) q
theorem Fun.okDG {P : Program} {w : World} {K : PySem.W.Frag} {mg : Str → Option Value} {base : Heap} {x qual : Str} {st : Stmt} {f : Addr} {fd : FuncData} {N ps : List Str} {k : Nat} {Fn : List PyData → Option PyData} (F : Fun K x qual st f fd) (S : FnScope N ps (defScope st))
    (len : ∀ ds d, Fn ds = some d → ds.length = ps.length)
    (body : ∀ (cdv : Value) (B : Around) (out : List Env) (s : Shared) (H : Hp) (E : XK) (ds : List PyData) (d : PyData), Room k (B.deeper (envOfC qual (defScope st) s.heap.objs.size f cdv)) →
      (B.deeper (envOfC qual (defScope st) s.heap.objs.size f cdv)).guards = some [] → Fn ds = some d →
      LD (cxOf CX0 P w K mg base N qual (defScope st) f cdv B out s H E).nox (startD N ds) (defBody st) (.ret d)) : FnG P w K mg base (k + 1) f fd ps (spD Fn) :=
  Fun.okG F S (fun vs H Q E ⟨S0, ds, d, g, _, e, _⟩ => by rw [g.length]; exact len ds d e) fun cdv B out s H vs Q E hr hG ⟨S0, ds, d, g, hS, e, q⟩ =>
    body cdv B out s H E ds d hr hG e S0 _ H _ (sl_start g hS) q
/-! ### order of texts -/
def srt (zs : List Str) : List Str := zs.mergeSort fun a b => !decide (lt b a)
theorem srt_perm (zs : List Str) : (srt zs).Perm zs := List.mergeSort_perm ..
theorem srt_pw (zs : List Str) : (srt zs).Pairwise fun a b => ¬ lt b a := by
  have h := List.pairwise_mergeSort (le := fun a b : Str => !decide (lt b a)) (fun a b c h1 h2 => by
    have h1' : ¬ lt b a := by simpa using h1
    have h2' : ¬ lt c b := by simpa using h2
    simpa using le_trans h1' h2') (fun a b => by
    by_cases q : lt b a
    · have : ¬ lt a b := fun z => lt_irr a (lt_trans z q)
      simp [this]
    · simp [q]) zs
  exact h.imp fun {a b} h => by simpa using h
theorem srt_uniq {zs ys : List Str} (hp : ys.Perm zs) (hs : sortedS ys = true) : ys = srt zs :=
  List.Perm.eq_of_pairwise (fun a b _ _ h1 h2 => lt_tri h2 h1) (sortedS_pw hs) (srt_pw zs) (hp.trans (srt_perm zs).symm)
def dd : List Str → List Str
  | [] => []
  | x :: xs => if x ∈ xs then dd xs else x :: dd xs
theorem mem_dd (k : Str) : ∀ xs : List Str, k ∈ dd xs ↔ k ∈ xs
  | [] => Iff.rfl
  | x :: xs => by
    have ih := mem_dd k xs
    unfold dd
    split
    · rw [ih, List.mem_cons]
      exact ⟨.inr, fun h => h.elim (fun e => by rw [e]; assumption) id⟩
    · rw [List.mem_cons, List.mem_cons, ih]
theorem nodup_dd : ∀ xs : List Str, (dd xs).Nodup
  | [] => List.nodup_nil
  | x :: xs => by
    unfold dd
    split
    · exact nodup_dd xs
    · exact List.nodup_cons.mpr ⟨fun h => by rw [mem_dd] at h; contradiction, nodup_dd xs⟩
theorem dd_self : ∀ {xs : List Str}, xs.Nodup → dd xs = xs
  | [], _ => rfl
  | x :: xs, h => by
    have h' := List.nodup_cons.mp h
    unfold dd
    rw [if_neg h'.1, dd_self h'.2]
theorem srtSet_uniq {zs ys : List Str} (hs : sortedS ys = true) (hn : ys.Nodup) (hm : ∀ k, k ∈ ys ↔ k ∈ zs) : ys = srt (dd zs) :=
  srt_uniq ((List.perm_ext_iff_of_nodup hn (nodup_dd zs)).mpr fun k => by rw [hm k, mem_dd]) hs
theorem dd_len (zs : List Str) : (dd zs).length = zs.length ↔ zs.Nodup := by
  induction zs with
  | nil => exact ⟨fun _ => List.nodup_nil, fun _ => rfl⟩
  | cons x xs ih =>
    have le : ∀ l : List Str, (dd l).length ≤ l.length := fun l => by
      induction l with
      | nil => exact Nat.le_refl _
      | cons y l ih => unfold dd; split
                       · rw [List.length_cons]; omega
                       · rw [List.length_cons, List.length_cons]; omega
    unfold dd
    split
    · rename_i h
      have := le xs
      rw [List.length_cons, List.nodup_cons]
      exact ⟨fun e => by omega, fun e => absurd h e.1⟩
    · rename_i h
      rw [List.length_cons, List.length_cons, List.nodup_cons, ← ih]
      exact ⟨fun e => ⟨h, by omega⟩, fun e => by omega⟩
theorem srt_asc (zs : List Str) : decide (zs = srt (dd zs)) = ascS zs := by
  apply Bool.eq_iff_iff.mpr
  rw [decide_eq_true_eq, asc_iff]
  constructor
  · intro e
    have pw := srt_pw (dd zs)
    have nd : (srt (dd zs)).Nodup := (srt_perm _).nodup_iff.mpr (nodup_dd zs)
    rw [← e] at pw nd
    refine (pw.and nd).imp fun {a b} ⟨h1, h2⟩ => ?_
    by_cases q : lt a b
    · exact q
    · exact absurd (lt_tri q h1) h2
  · intro h
    have nd : zs.Nodup := h.imp (S := fun a b => a ≠ b) fun {a b} h1 h2 => lt_irr a (by rw [← h2] at h1; exact h1)
    rw [dd_self nd]
    exact List.Perm.eq_of_pairwise (fun a b _ _ h1 h2 => lt_tri h2 h1) (h.imp fun {a b} h1 h2 => lt_irr a (lt_trans h1 h2)) (srt_pw zs) (srt_perm zs).symm
section
variable {X : Cx} {ρ : Rho} {a b c e : Expr} {es rest : List Expr} {d d1 d2 : PyData} {ds ds2 : List PyData} {pos p p2 p3 pc pt : Pos} {x : Str} {k m : Bool}
theorem d_callG {kk j : Nat} {F : List PyData → Option PyData} (cF : CalG X.prog X.w X.K X.mg X.base kk x (spD F)) (hr : Room j X.A) (hG : X.A.guards = some []) (hk : kk ≤ j) (h : AD X ρ (e :: es) ds) (hF : F ds = some d) (hg : Gl X x := by rfl)
    (hdb : (x == ("__debug__" : Str)) = false := by decide) (he : starEach (e :: es) X.env = (false, eval e X.env) :: starEach es X.env := by rfl) (hpl : (backTo pos (starEach es X.env)).any (·.1) = false := by rfl) : ED X ρ (.Call (.Name x p) (e :: es) [] pos) d := fun S σ H Q sl q =>
  e_cG cF hr hG hk (h S σ H _ sl fun vs H1 s1 g1 => by
    exact ⟨S, ds, d, g1, in_same s1 sl.dom, hF, fun v H2 s2 g2 => q v H2 (s1.trans s2) g2⟩) hg hdb he hpl
theorem ED.cast {d' : PyData} (h : ED X ρ e d) (q : d = d') : ED X ρ e d' := q ▸ h
theorem TD.cast {k' : Bool} (h : TD X ρ e k) (q : k = k') : TD X ρ e k' := q ▸ h
/-- sorted of texts; sorted(set(..)) -/
theorem d_sortedL {zs : List Str} (hm : X.mg "sorted" = none) (h : ED X ρ e (.list (zs.map PyData.str))) (l : zs.length < 64) (hg : Gl X "sorted" := by rfl)
    (he : starEach [e] X.env = (false, eval e X.env) :: starEach [] X.env := by rfl) : ED X ρ (.Call (.Name "sorted" p) [e] [] pos) (.list ((srt zs).map PyData.str)) := fun S σ H Q sl q =>
  e_sorted hm (h S σ H _ sl fun v H1 s1 g1 => by
    obtain ⟨a, xs, rfl, _, hs, sq⟩ := g1.seqL (K := X.K)
    rw [strsE hs] at sq
    refine ⟨a, zs, rfl, sq, l, fun ys t hp hso ht => ?_⟩
    rw [srt_uniq hp hso]
    exact q _ _ (s1.trans (same_new ht)) (.lst upd_same (fun z => in_same s1 sl.dom t z ht) (DGs.strs _))) hg he rfl
theorem d_sortedT {zs : List Str} (hm : X.mg "sorted" = none) (h : ED X ρ e (.tuple (zs.map PyData.str))) (l : zs.length < 64) (hg : Gl X "sorted" := by rfl)
    (he : starEach [e] X.env = (false, eval e X.env) :: starEach [] X.env := by rfl) : ED X ρ (.Call (.Name "sorted" p) [e] [] pos) (.list ((srt zs).map PyData.str)) := fun S σ H Q sl q =>
  e_callB cr_sortedTS hm PyProof.Rows.boot_sorted (a_cons (h S σ H _ sl fun v H1 s1 g1 => by
    obtain ⟨a, xs, rfl, _, hs, sq⟩ := g1.seq (K := X.K)
    rw [strsE hs] at sq
    refine a_nil ⟨a, zs, rfl, sq, l, fun ys t hp hso ht => ?_⟩
    rw [srt_uniq hp hso]
    exact q _ _ (s1.trans (same_new ht)) (.lst upd_same (fun z => in_same s1 sl.dom t z ht) (DGs.strs _))) he) hg (by decide) (by decide) he rfl
theorem d_sortedSet {zs : List Str} (hm : X.mg "sorted" = none) (hm2 : X.mg "set" = none) (h : ED X ρ a (.list (zs.map PyData.str)) ∨ ED X ρ a (.tuple (zs.map PyData.str))) (l : zs.length < 64) (hc : X.calm = true := by rfl) (hg : Gl X "sorted" := by rfl) (hg2 : Gl X "set" := by rfl)
    (na : starEach [a] X.env = (false, eval a X.env) :: starEach [] X.env := by rfl) : ED X ρ (.Call (.Name "sorted" p) [.Call (.Name "set" p2) [a] [] p3] [] pos) (.list ((srt (dd zs)).map PyData.str)) := fun S σ H Q sl q => by
  refine e_sortedSet hm hm2 ?_ hc hg hg2 na
  have fin : ∀ {H1 : Hp}, Same H H1 → ∀ (ys : List Str) (t : Addr), sortedS ys = true → ys.Nodup → (∀ k, k ∈ ys ↔ k ∈ zs) → ys.length = cnt zs zs.length → H1 t = none → Q (.ref t) (upd H1 t (.lst (ys.map V.str))) := fun {H1} s1 ys t hso hnd hmem _ ht => by
    rw [srtSet_uniq hso hnd hmem]
    exact q _ _ (s1.trans (same_new ht)) (.lst upd_same (fun z => in_same s1 sl.dom t z ht) (DGs.strs _))
  rcases h with h | h
  · exact h S σ H _ sl fun v H1 s1 g1 => by
      obtain ⟨a, xs, rfl, _, hs, sq⟩ := g1.seqL (K := X.K)
      rw [strsE hs] at sq
      exact ⟨a, zs, rfl, .inl sq, l, fin s1⟩
  · exact h S σ H _ sl fun v H1 s1 g1 => by
      obtain ⟨a, xs, rfl, _, hs, sq⟩ := g1.seq (K := X.K)
      rw [strsE hs] at sq
      exact ⟨a, zs, rfl, .inr sq, l, fin s1⟩
/-! ### over a text, over range -/
section
variable {elt iter : Expr} {scope : Scope}
theorem lc_step {S : Addr → Prop} {σ : L2.St} {H1 H' : Hp} {D : Addr} {ys : List V} (nD : H1 D = none) (sl1 : SL S H1 σ ρ) (k1 : ∀ b o, b ≠ D → (L2.upd H1 D (.lst [])) b = some o → H' b = some o) (k2 : H' D = some (.lst ys)) : SL (And1 S D) H' σ ρ := by
  have slD := sl1.and1 (o := .lst []) nD
  have keep : ∀ {v : V} {d : PyData}, DG (And1 S D) (L2.upd H1 D (.lst [])) v d → DG (And1 S D) H' v d := fun g => g.mono (fun b xs e => k1 b _ (ne_of e upd_same (fun z => by cases z)) e) fun a o n e => ⟨n, k1 a o (fun z => n (.inr z)) e⟩
  exact ⟨fun b z w => by
      cases e : (L2.upd H1 D (.lst [])) b with
      | none => exact slD.dom b z e
      | some o =>
        by_cases bD : b = D
        · rw [bD, k2] at w; cases w
        · (rw [k1 b o bD e] at w; cases w), fun i d q => let ⟨v, a, b⟩ := slD.look i d q; ⟨v, a, keep b⟩, slD.len⟩
theorem d_lcS {z : Str} (j : Nat) (f : Nat → PyData) (hN : X.N.Nodup) (okb : BlkOk X.N X.env.scope scope [(x, j)]) (h : ED X ρ iter (.str z)) (l : z.length ≤ 1000) (hel : ∀ c ∈ z.cps.toList, BD X scope (ρ.set j (some (.str ⟨#[c]⟩))) elt (f c))
    (hg : ∀ (s : Shared) (H : Hp) (C : Addr) (cl : List (Str × Addr)) (fp : List Addr), PG (X.blk s H scope (compEnvC scope cl C X.env) fp) (.Name x pt) (gName j))
    (hc : X.calm = true := by rfl) (hs : ∀ z, foldedSetIterable iter X.env z = pure z := by intro _; rfl) : ED X ρ (.ListComp elt [⟨.Name x pt, iter, [], 0⟩] scope pos) (.list (z.cps.toList.map f)) := fun S σ H Q sl q => by
  refine e_lcS j hN okb (h S σ H _ sl fun v H1 s1 g1 => ?_) hg hc hs
  cases g1
  refine ⟨z, rfl, fun D nD => ?_⟩
  have sl1 := sl.same s1
  refine ⟨fun i H' => ∃ ys, (∀ b o, b ≠ D → (L2.upd H1 D (.lst [])) b = some o → H' b = some o) ∧ H' D = some (.lst ys) ∧ ys.length = i ∧ DGs (And1 S D) H' ys ((z.cps.toList.take i).map f), ?_, ?_, ?_⟩
  · exact ⟨[], fun b o _ e => e, upd_same, rfl, .nil⟩
  · rintro i ch H' hi ⟨ys, k1, k2, k3, k4⟩ s0 H00 C cl fp
    have hi' : z.cps.toList[i]? = some ch := by rw [Array.getElem?_toList]; exact hi
    have lt : i < z.cps.toList.length := (List.getElem?_eq_some_iff.mp hi').1
    have sl2 := SL.set (i := j) (lc_step nD sl1 k1 k2) (DG.str (S := And1 S D) (H := H') ⟨#[ch]⟩)
    have ew : (L2.wipe σ [j]).set j (some (V.str ⟨#[ch]⟩)) = σ.set j (some (V.str ⟨#[ch]⟩)) := by show (σ.set j none).set j _ = _; rw [List.set_set]
    rw [ew]
    refine hel ch (List.mem_of_getElem? hi') s0 H00 C cl fp (And1 S D) _ H' _ sl2 fun y H4 s4 g4 => ?_
    have h4 := s4 _ _ k2
    have i1 : i < 1001 := by
      have e : z.cps.toList.length = z.length := by rw [Array.length_toList]; rfl
      omega
    refine ⟨ys, h4, by rw [k3]; exact Nat.lt_of_lt_of_le i1 (by decide), ys ++ [y], fun b o n e => ?_, upd_same, by rw [List.length_append, k3]; rfl, ?_⟩
    · rw [upd_ne n]; exact s4 _ _ (k1 b o n e)
    · have e : z.cps.toList[i] = ch := by rw [List.getElem?_eq_getElem lt] at hi'; exact Option.some.inj hi'
      rw [List.take_succ_eq_append_getElem lt, List.map_append, e]
      exact ((k4.same s4).append (.cons g4 .nil)).put h4
  · rintro H' ⟨ys, k1, k2, k3, k4⟩
    have e : z.cps.size = z.cps.toList.length := by rw [Array.length_toList]
    rw [e, List.take_length] at k4
    refine q _ H' (s1.trans fun b o e => k1 b o (ne_of_none e nD) (same_new nD b o e)) (.lst k2 (fun z => sl1.dom D z nD) k4.un1)
theorem d_lcR {n : Nat} (j : Nat) (f : Nat → PyData) (hm : X.mg "range" = none) (hN : X.N.Nodup) (okb : BlkOk X.N X.env.scope scope [(x, j)]) (h : ED X ρ a (.int n)) (l : n ≤ 1000) (hel : ∀ i, i < n → BD X scope (ρ.set j (some (.int i))) elt (f i))
    (hg : ∀ (s : Shared) (H : Hp) (C : Addr) (cl : List (Str × Addr)) (fp : List Addr), PG (X.blk s H scope (compEnvC scope cl C X.env) fp) (.Name x pt) (gName j))
    (hgl : Gl X "range" := by rfl) (hst : starEach [a] X.env = [(false, eval a X.env)] := by rfl)
    (hc : X.calm = true := by rfl) (hs : ∀ z, foldedSetIterable (.Call (.Name "range" p) [a] [] pc) X.env z = pure z := by intro _; rfl) : ED X ρ (.ListComp elt [⟨.Name x pt, .Call (.Name "range" p) [a] [] pc, [], 0⟩] scope pos) (.list ((List.range n).map f)) := fun S σ H Q sl q => by
  refine e_lcR j hm hN okb (h S σ H _ sl fun v H1 s1 g1 => ?_) hg hgl hst hc hs
  cases g1
  refine ⟨n, rfl, by omega, fun D nD => ?_⟩
  have sl1 := sl.same s1
  refine ⟨fun i H' => ∃ ys, (∀ b o, b ≠ D → (L2.upd H1 D (.lst [])) b = some o → H' b = some o) ∧ H' D = some (.lst ys) ∧ ys.length = i ∧ DGs (And1 S D) H' ys ((List.range i).map f), ?_, ?_, ?_⟩
  · exact ⟨[], fun b o _ e => e, upd_same, rfl, .nil⟩
  · rintro i H' hi ⟨ys, k1, k2, k3, k4⟩ s0 H00 C cl fp
    have sl2 := SL.set (i := j) (lc_step nD sl1 k1 k2) (DG.int (S := And1 S D) (H := H') (i : Int))
    have ew : (L2.wipe σ [j]).set j (some (V.int i)) = σ.set j (some (V.int i)) := by show (σ.set j none).set j _ = _; rw [List.set_set]
    rw [ew]
    refine hel i hi s0 H00 C cl fp (And1 S D) _ H' _ sl2 fun y H4 s4 g4 => ?_
    have h4 := s4 _ _ k2
    refine ⟨ys, h4, by rw [k3]; exact Nat.lt_of_lt_of_le (show i < 1001 by omega) (by decide), ys ++ [y], fun b o n e => ?_, upd_same, by rw [List.length_append, k3]; rfl, ?_⟩
    · rw [upd_ne n]; exact s4 _ _ (k1 b o n e)
    · rw [List.range_succ, List.map_append]
      exact ((k4.same s4).append (.cons g4 .nil)).put h4
  · rintro H' ⟨ys, k1, k2, k3, k4⟩
    exact q _ H' (s1.trans fun b o e => k1 b o (ne_of_none e nD) (same_new nD b o e)) (.lst k2 (fun z => sl1.dom D z nD) k4.un1)
end
/-! ### unpacking, for -/
variable {st : Stmt} {l l1 l2 : List Stmt} {o : Out} {ρ1 : Rho} {x1 x2 x3 x4 : Str} {q1 q2 q3 q4 : Pos} {kt : _}
theorem sd_unp2 {da db : PyData} (i1 i2 : Nat) (h : ED X ρ e (.tuple [da, db])) (hg : PG X (.Tuple [.Name x1 q1, .Name x2 q2] kt pt) (gTup X.K 2 (gCons (gName i1) (gCons (gName i2) gNil))))
    (hs : swapsWithSole [.Tuple [.Name x1 q1, .Name x2 q2] kt pt] e pos.line X.env = pure false := by rfl) (hw : swappedStores [.Tuple [.Name x1 q1, .Name x2 q2] kt pt] e X.env = pure none := by rfl)
    (h1 : (assignEach [.Tuple [.Name x1 q1, .Name x2 q2] kt pt] X.env).map (·.2) = [assign (.Tuple [.Name x1 q1, .Name x2 q2] kt pt) X.env] := by rfl) : SD X ρ (.Assign [.Tuple [.Name x1 q1, .Name x2 q2] kt pt] e pos) (.nx ((ρ.set i1 (some da)).set i2 (some db))) := fun S σ H D sl q =>
  s_asg hg (h S σ H _ sl fun v H1 s1 g1 => by
    obtain ⟨a, xs, rfl, _, hs, sq⟩ := g1.seq (K := X.K)
    cases hs with | cons ga hs => cases hs with | cons gb hs => cases hs with | nil =>
      exact ⟨a, _, rfl, sq, rfl, _, _, rfl, _, _, rfl, rfl, q _ H1 s1 (((sl.same s1).set ga).set gb)⟩) hs hw h1
theorem sd_unp3 {da db dc : PyData} (i1 i2 i3 : Nat) (h : ED X ρ e (.tuple [da, db, dc])) (hg : PG X (.Tuple [.Name x1 q1, .Name x2 q2, .Name x3 q3] kt pt) (gTup X.K 3 (gCons (gName i1) (gCons (gName i2) (gCons (gName i3) gNil)))))
    (hs : swapsWithSole [.Tuple [.Name x1 q1, .Name x2 q2, .Name x3 q3] kt pt] e pos.line X.env = pure false := by rfl) (hw : swappedStores [.Tuple [.Name x1 q1, .Name x2 q2, .Name x3 q3] kt pt] e X.env = pure none := by rfl)
    (h1 : (assignEach [.Tuple [.Name x1 q1, .Name x2 q2, .Name x3 q3] kt pt] X.env).map (·.2) = [assign (.Tuple [.Name x1 q1, .Name x2 q2, .Name x3 q3] kt pt) X.env] := by rfl) : SD X ρ (.Assign [.Tuple [.Name x1 q1, .Name x2 q2, .Name x3 q3] kt pt] e pos) (.nx (((ρ.set i1 (some da)).set i2 (some db)).set i3 (some dc))) := fun S σ H D sl q =>
  s_asg hg (h S σ H _ sl fun v H1 s1 g1 => by
    obtain ⟨a, xs, rfl, _, hs, sq⟩ := g1.seq (K := X.K)
    cases hs with | cons ga hs => cases hs with | cons gb hs => cases hs with | cons gc hs => cases hs with | nil =>
      exact ⟨a, _, rfl, sq, rfl, _, _, rfl, _, _, rfl, _, _, rfl, rfl, q _ H1 s1 ((((sl.same s1).set ga).set gb).set gc)⟩) hs hw h1
theorem sd_unp4 {da db dc de : PyData} (i1 i2 i3 i4 : Nat) (h : ED X ρ e (.tuple [da, db, dc, de])) (hg : PG X (.Tuple [.Name x1 q1, .Name x2 q2, .Name x3 q3, .Name x4 q4] kt pt) (gTup X.K 4 (gCons (gName i1) (gCons (gName i2) (gCons (gName i3) (gCons (gName i4) gNil))))))
    (hs : swapsWithSole [.Tuple [.Name x1 q1, .Name x2 q2, .Name x3 q3, .Name x4 q4] kt pt] e pos.line X.env = pure false := by rfl) (hw : swappedStores [.Tuple [.Name x1 q1, .Name x2 q2, .Name x3 q3, .Name x4 q4] kt pt] e X.env = pure none := by rfl)
    (h1 : (assignEach [.Tuple [.Name x1 q1, .Name x2 q2, .Name x3 q3, .Name x4 q4] kt pt] X.env).map (·.2) = [assign (.Tuple [.Name x1 q1, .Name x2 q2, .Name x3 q3, .Name x4 q4] kt pt) X.env] := by rfl) : SD X ρ (.Assign [.Tuple [.Name x1 q1, .Name x2 q2, .Name x3 q3, .Name x4 q4] kt pt] e pos) (.nx ((((ρ.set i1 (some da)).set i2 (some db)).set i3 (some dc)).set i4 (some de))) := fun S σ H D sl q =>
  s_asg hg (h S σ H _ sl fun v H1 s1 g1 => by
    obtain ⟨a, xs, rfl, _, hs, sq⟩ := g1.seq (K := X.K)
    cases hs with | cons ga hs => cases hs with | cons gb hs => cases hs with | cons gc hs => cases hs with | cons gd hs => cases hs with | nil =>
      exact ⟨a, _, rfl, sq, rfl, _, _, rfl, _, _, rfl, _, _, rfl, _, _, rfl, rfl, q _ H1 s1 (((((sl.same s1).set ga).set gb).set gc).set gd)⟩) hs hw h1
/-- for x in a tuple; each turn goes on (to the next turn's slots), or returns -/
inductive ForD (X : Cx) (j : Nat) (body : List Stmt) : List PyData → Rho → Out → Prop
  | done {ρ : Rho} : ForD X j body [] ρ (.nx ρ)
  | next {ρ ρ1 : Rho} {d : PyData} {ds : List PyData} {o : Out} (h : LD X (ρ.set j (some d)) body (.nx ρ1)) (r : ForD X j body ds ρ1 o) : ForD X j body (d :: ds) ρ o
  | ret {ρ : Rho} {d r : PyData} {ds : List PyData} (h : LD X (ρ.set j (some d)) body (.ret r)) : ForD X j body (d :: ds) ρ (.ret r)
theorem sd_forT {iter : Expr} {body : List Stmt} (j : Nat) (h : ED X ρ iter (.tuple ds)) (hf : ForD X j body ds ρ o) (hg : PG X (.Name x pt) (gName j)) (hp : PassesOwn (model X.prog X.w) X.A X.env X.xe) (hc : X.calm = true := by rfl)
    (hs : ∀ x, foldedSetIterable iter X.env x = pure x := by intro _; rfl) : SD X ρ (.For (.Name x pt) iter body [] pos) o := fun S σ H D sl q => by
  refine s_for (pi_tup pE) hg (h S σ H _ sl fun v H1 s1 g1 => ?_) hp hc hs
  obtain ⟨a, xs, rfl, ha, hds, sq⟩ := g1.seq (K := X.K)
  refine ⟨a, rfl, ⟨xs, sq⟩, for_tup (xs := xs) (fun i σ' H' => ∃ ρ', Same H1 H' ∧ SL S H' σ' ρ' ∧ ForD X j body (ds.drop i) ρ' o) ⟨ρ, Same.refl _, sl.same s1, hf⟩ (fun i σ' H' _ ⟨_, s2, _⟩ => .inl (.inl (s2 _ _ ha))) ?_ ?_⟩
  · rintro i y σ' H' hi ⟨ρ', s2, sl2, fd⟩
    obtain ⟨d, hd, hy⟩ := hds.get hi
    have lt : i < ds.length := (List.getElem?_eq_some_iff.mp hd).1
    have e : ds.drop i = d :: ds.drop (i + 1) := by
      rw [List.drop_eq_getElem_cons lt]
      rw [List.getElem?_eq_getElem lt] at hd
      rw [Option.some.inj hd]
    rw [e] at fd
    have sl3 := sl2.set (i := j) (hy.same s2)
    cases fd with
    | next hb r => exact hb S _ H' _ sl3 fun σ4 H4 s4 sl4 => ⟨_, s2.trans s4, sl4, r⟩
    | ret hb => exact hb S _ H' _ sl3 fun v H4 s4 g4 => q v H4 (s1.trans (s2.trans s4)) g4
  · rintro σ' H' ⟨ρ', s2, sl2, fd⟩
    rw [hds.length, List.drop_length] at fd
    cases fd
    exact q σ' H' (s1.trans s2) sl2
end
end My

namespace My
open PySem PySem.Spec PyProof.Rows L2
/-! ### forms, as functions on data -/
def els : PyData → List PyData | .tuple ds => ds | _ => []
def at' (d : PyData) (i : Nat) : PyData := (els d).getD i .none
def tupN (d : PyData) (n : Nat) : Bool := isTup d && decide ((els d).length = n)
def nnD (d : PyData) : Bool := isNone d || namD d
def pairD (d : PyData) : Bool := tupN d 2
def colD (d : PyData) : Bool := pairD d && (nnD (at' d 0) && namD (at' d 1))
def callD : Nat → PyData → Bool
  | 0, _ => false
  | k + 1, d => tupN d 4 && (eqS (at' d 0) "call" && nnD (at' d 1) && namD (at' d 2)) && tupD 1 2 (fun x => colD x || valD x || callD k x) (at' d 3)
def toldD (d : PyData) : Bool := if pairD d then eqS (at' d 0) "star" && namD (at' d 1) else tupN d 3 && namD (at' d 2) && (if eqS (at' d 0) "column" then colD (at' d 1) else eqS (at' d 0) "term" && (valD (at' d 1) || callD 3 (at' d 1)))
def srcD (d : PyData) : Bool := tupN d 3 && (nnD (at' d 0) && namD (at' d 1) && namD (at' d 2))
def condD (d : PyData) : Bool := tupN d 3 && colD (at' d 1) && (if eqS (at' d 0) "equal" then colD (at' d 2) else eqS (at' d 0) "in" && valsD (at' d 2))
def labs (d : PyData) (i : Nat) : List Str := (els d).map fun x => My.strOf (at' x i)
def stD (d : PyData) : Bool := tupN d 4 && (isBoo (at' d 0) && tupD 1 8 toldD (at' d 1) && tupD 1 4 srcD (at' d 2) && decide (labs (at' d 2) 2).Nodup && tupD 0 8 condD (at' d 3))
def hasV : Nat → PyData → Bool
  | 0, d => isStr d
  | k + 1, d => isStr d || (!pairD d && (els (at' d 3)).any (hasV k))
def truB : PyData → Bool | .bool b => b | _ => false
def viewD (d : PyData) : Bool := stD d && !truB (at' d 0) && (els (at' d 1)).all (fun it => !(eqS (at' it 0) "star" || hasV 3 (at' it 1))) && decide (labs (at' d 1) 2).Nodup
def pathD (d : PyData) : Bool := tupD 0 6 namD d && decide ((els d).map My.strOf).Nodup
theorem els_tup {d : PyData} (h : isTup d = true) : d = .tuple (els d) := by cases d <;> first | rfl | cases h
theorem tupN_tup {d : PyData} {n : Nat} (h : tupN d n = true) : isTup d = true ∧ (els d).length = n := by
  unfold tupN at h
  rw [Bool.and_eq_true, decide_eq_true_eq] at h
  exact h
theorem at_get {d : PyData} {i : Nat} (h : i < (els d).length) : (els d)[i]? = some (at' d i) := by
  unfold at'
  rw [List.getD_eq_getElem?_getD, List.getElem?_eq_getElem h]; rfl
theorem okS_at {d : PyData} (h : okS d = true) (i : Nat) : okS (at' d i) = true := by
  unfold at'
  by_cases lt : i < (els d).length
  · rw [List.getD_eq_getElem?_getD, List.getElem?_eq_getElem lt]
    have hm : (els d)[i] ∈ els d := List.getElem_mem lt
    cases d with
    | tuple ds => exact okS_t h _ hm
    | _ => cases hm
  · rw [List.getD_eq_getElem?_getD, List.getElem?_eq_none (by omega)]
    decide +kernel
theorem okS_els {d : PyData} (h : okS d = true) : ∀ x ∈ els d, okS x = true := fun x hx => by
  cases d with
  | tuple ds => exact okS_t h x hx
  | _ => cases hx
theorem tupD_els {lo hi : Int} {f : PyData → Bool} {d : PyData} (h : tupD lo hi f d = true) : isTup d = true ∧ lo ≤ (els d).length ∧ ((els d).length : Int) ≤ hi ∧ ∀ x ∈ els d, f x = true := by
  cases d with
  | tuple ds =>
    have h' : (decide (lo ≤ (ds.length : Int)) && decide ((ds.length : Int) ≤ hi) && ds.all f) = true := h
    rw [Bool.and_eq_true, Bool.and_eq_true, decide_eq_true_eq, decide_eq_true_eq, List.all_eq_true] at h'
    exact ⟨rfl, h'.1.1, h'.1.2, h'.2⟩
  | _ => cases h
theorem nam_str {d : PyData} (h : namD d = true) : d = .str (My.strOf d) := by cases d <;> first | rfl | cases h
theorem dec_cast (a b : Nat) : decide ((a : Int) = (b : Int)) = decide (a = b) := by
  apply Bool.eq_iff_iff.mpr
  rw [decide_eq_true_eq, decide_eq_true_eq]
  exact Int.ofNat_inj
section
variable {X : Cx} {ρ : Rho} {a b c e : Expr} {es rest : List Expr} {d d1 d2 : PyData} {ds ds2 : List PyData} {pos p p2 p3 pc pt : Pos} {x y : Str} {k m : Bool}
/-- thing[i] -/
theorem d_at {i : Nat} {j} {n : Nat} (ha : ED X ρ a d) (h : isTup d = true) (hi : i < (els d).length) : ED X ρ (.Subscript a (.Constant (.int i) j p) pos) (at' d i) := by
  refine d_ix (ds := els d) (i := i) (ha.cast (els_tup h)) (d_int i) (at_get hi)
/-- .. as a part of a longer one -/
theorem wd_tupN {a2 : Expr} {n : Nat} {j} (G : X.mg "isinstance" = none ∧ X.mg "tuple" = none ∧ X.mg "len" = none) (h : ED X ρ a d) (hB : ED X ρ a2 d) (hr : tupN d n = true → WD X ρ (.BoolOp .Or (b :: rest) pos) m) (hg : Gl X "isinstance" := by rfl) (hgT : Gl X "tuple" := by rfl) (hgl : Gl X "len" := by rfl) {q1 q2 q3 q4 q5 q6 q7 : Pos}
    (he : starEach [a, .Name "tuple" q2] X.env = (false, eval a X.env) :: starEach [.Name "tuple" q2] X.env := by rfl) (he2 : starEach [a2] X.env = (false, eval a2 X.env) :: starEach [] X.env := by rfl)
    (hi1 : ∀ whole, isTrue (.Call (.Name "isinstance" q1) [a, .Name "tuple" q2] [] q3) X.env whole = (do let v ← whole; standAt q3; holding [v] (truthy v)) := by intro _; rfl) :
    WD X ρ (.BoolOp .Or (.UnaryOp .Not (.Call (.Name "isinstance" q1) [a, .Name "tuple" q2] [] q3) q4 :: .Compare (.Call (.Name "len" q5) [a2] [] q6) [.NotEq] [.Constant (.int n) j p] q7 :: b :: rest) pos) (!tupN d n || m) := by
  have e : (!tupN d n || m) = (!isTup d || (!decide ((els d).length = n) || m)) := by unfold tupN; cases isTup d <;> cases decide ((els d).length = n) <;> rfl
  rw [e]
  refine wd_or (td_not (td_val (d_isTup G.1 G.2.1 h hg hgT he) hi1)) fun ht => ?_
  have ht' : isTup d = true := by simpa using ht
  refine wd_or (td_cmp o_neI (d_len (ds := els d) G.2.2 (hB.cast (els_tup ht')) hgl he2) (d_int _) ⟨_, _, rfl, rfl, congrArg Bool.not (dec_cast _ _).symm⟩ (by exact nomark _)) fun hl => hr ?_
  have hl' : (els d).length = n := by simpa using hl
  unfold tupN
  rw [ht', hl', decide_eq_true rfl]; rfl
/-! promises of one argument -/
def F1 (f : PyData → Bool) : List PyData → Option PyData
  | [d] => if okS d then some (.bool (f d)) else none
  | _ => none
theorem spD_B {f : PyData → Bool} {vs : List V} {H : Hp} {Q : VK} {E : XK} (h : spD (F1 f) vs H Q E) : spB f vs H Q E := by
  obtain ⟨S, ds, d, g, hS, e, q⟩ := h
  cases g with
  | nil => cases e
  | cons g1 gs =>
    cases gs with
    | cons _ _ => cases e
    | nil =>
      rename_i v d0
      by_cases hk : okS d0 = true
      · have e' : (if okS d0 then some (PyData.bool (f d0)) else none) = some d := e
        rw [if_pos hk] at e'
        cases e'
        exact ⟨S, v, d0, rfl, g1, hk, fun H' s => q _ H' s (.bl _)⟩
      · have e' : (if okS d0 then some (PyData.bool (f d0)) else none) = some d := e
        rw [if_neg hk] at e'
        cases e'
theorem F1_of {f : PyData → Bool} {d : PyData} (h : okS d = true) : F1 f [d] = some (.bool (f d)) := if_pos h
theorem F1_len {f : PyData → Bool} (ds : List PyData) (d : PyData) (h : F1 f ds = some d) : ds.length = 1 := by
  match ds, h with
  | [_], _ => rfl
  | [], h => cases h
  | _ :: _ :: _, h => cases h
theorem F1_inv {f : PyData → Bool} {ds : List PyData} {r : PyData} (h : F1 f ds = some r) : ∃ d, ds = [d] ∧ okS d = true ∧ r = .bool (f d) := by
  match ds, h with
  | [d], h =>
    by_cases hk : okS d = true
    · have e' : (if okS d then some (PyData.bool (f d)) else none) = some r := h
      rw [if_pos hk] at e'
      exact ⟨d, rfl, hk, by cases e'; rfl⟩
    · have e' : (if okS d then some (PyData.bool (f d)) else none) = some r := h
      rw [if_neg hk] at e'
      cases e'
  | [], h => cases h
  | _ :: _ :: _, h => cases h
theorem FnOk.to {P : Program} {w : World} {K : PySem.W.Frag} {mg : Str → Option Value} {base : Heap} {k : Nat} {f : Addr} {fd : FuncData} {ps : List Str} {sp sp' : Sp} (h : FnOk P w K mg base CX0 k f fd ps sp) (i : ∀ vs H Q E, sp' vs H Q E → sp vs H Q E) : FnOk P w K mg base CX0 k f fd ps sp' :=
  ⟨fun vs H Q E q => h.len vs H Q E (i vs H Q E q), fun B out s H ar us vs Q E r e b v q => h.run B out s H ar us vs Q E r e b v (i vs H Q E q)⟩
theorem spB_D {f : PyData → Bool} {vs : List V} {H : Hp} {Q : VK} {E : XK} (hd : ∀ (S : Addr → Prop) (v : V) (d : PyData), DG S H v d → DG (fun _ => False) H v d) (h : spB f vs H Q E) : spD (F1 f) vs H (fun v H' => Q v H') E := by
  obtain ⟨S, v, d, rfl, g, hk, q⟩ := h
  refine ⟨fun _ => False, [d], .bool (f d), .cons (hd S v d g) .nil, fun _ z => z.elim, F1_of hk, fun u H' s gu => ?_⟩
  cases gu
  exact q H' s
theorem spB_D' {f : PyData → Bool} {vs : List V} {H : Hp} {Q : VK} {E : XK} (h : spB f vs H Q E) : spD (F1 f) vs H Q E :=
  spB_D (fun S v d g => g.mono (Tup.refl _) fun a o _ e => ⟨fun z => z, e⟩) h
theorem d_fn {kk j : Nat} {f : PyData → Bool} (cF : CalN X.prog X.w X.K X.mg X.base kk x (spB f)) (hr : Room j X.A) (hk : kk ≤ j) (h : ED X ρ e d) (ok : okS d = true) (hg : Gl X x := by rfl)
    (hdb : (x == ("__debug__" : Str)) = false := by decide) (he : starEach [e] X.env = (false, eval e X.env) :: starEach [] X.env := by rfl) : ED X ρ (.Call (.Name x p) [e] [] pos) (.bool (f d)) := fun S σ H Q sl q =>
  e_c cF hr hk (a_cons (h S σ H _ sl fun v H1 s1 g1 => a_nil ⟨S, v, d, rfl, g1, ok, fun H2 s2 => q _ H2 (s1.trans s2) (.bl _)⟩) he) hg hdb he rfl
theorem d_tupOf {kt k j : Nat} {f : PyData → Bool} {lo hi : Int} {el eh : Expr} (cT : CalN X.prog X.w X.K X.mg X.base kt "is_tuple_of" (spTO X.prog X.w X.K X.mg X.base k)) (cF : CalN X.prog X.w X.K X.mg X.base k y (spB f)) (hr : Room j X.A) (hk : kt ≤ j)
    (h : ED X ρ e d) (h1 : ED X ρ el (.int lo)) (h2 : ED X ρ eh (.int hi)) (ok : okS d = true) (hh : hi ≤ 1000) (hg : Gl X "is_tuple_of" := by rfl) (hgy : Gl X y := by rfl) (hdy : (y == ("__debug__" : Str)) = false := by decide)
    (s1 : starEach [e, el, eh, .Name y p2] X.env = (false, eval e X.env) :: starEach [el, eh, .Name y p2] X.env := by rfl) (s2 : starEach [el, eh, .Name y p2] X.env = (false, eval el X.env) :: starEach [eh, .Name y p2] X.env := by rfl)
    (s3 : starEach [eh, .Name y p2] X.env = (false, eval eh X.env) :: starEach [.Name y p2] X.env := by rfl) (hpl : (backTo pos (starEach [el, eh, .Name y p2] X.env)).any (·.1) = false := by rfl) :
    ED X ρ (.Call (.Name "is_tuple_of" p) [e, el, eh, .Name y p2] [] pos) (.bool (tupD lo hi f d)) := fun S σ H Q sl q => by
  obtain ⟨g, gd, gps, Fg, mgG, kg, bg⟩ := cF.ex
  refine e_c cT hr hk (a_cons (h S σ H _ sl fun v H1 t1 g1 => a_cons (h1 S σ H1 _ (sl.same t1) fun u1 H2 t2 g2 => a_cons (h2 S σ H2 _ (sl.same (t1.trans t2)) fun u2 H3 t3 g3 => a_cons (e_glob (v := .ref g) mgG rfl (a_nil ?_) hgy hdy) rfl) s3) s2) s1) hg (by decide) s1 hpl
  cases g2; cases g3
  exact ⟨S, v, d, lo, hi, g, f, rfl, ⟨gd, gps, Fg, kg, bg⟩, hh, (g1.same t2).same t3, ok, fun H4 t4 => q _ H4 (t1.trans (t2.trans (t3.trans t4))) (.bl _)⟩
theorem d_diff {kk j : Nat} {zs : List Str} (cF : CalN X.prog X.w X.K X.mg X.base kk x (spDiff X.K)) (hr : Room j X.A) (hk : kk ≤ j) (h : ED X ρ e (.list (zs.map PyData.str)) ∨ ED X ρ e (.tuple (zs.map PyData.str))) (hl : zs.length ≤ 1000) (hg : Gl X x := by rfl)
    (hdb : (x == ("__debug__" : Str)) = false := by decide) (he : starEach [e] X.env = (false, eval e X.env) :: starEach [] X.env := by rfl) : ED X ρ (.Call (.Name x p) [e] [] pos) (.bool (decide zs.Nodup)) := fun S σ H Q sl q => by
  refine e_c cF hr hk (a_cons ?_ he) hg hdb he rfl
  rcases h with h | h
  · exact h S σ H _ sl fun v H1 s1 g1 => by
      obtain ⟨a, xs, rfl, _, hs, sq⟩ := g1.seqL (K := X.K)
      rw [strsE hs] at sq
      exact a_nil ⟨a, zs, rfl, .inl sq, hl, q _ H1 s1 (.bl _)⟩
  · exact h S σ H _ sl fun v H1 s1 g1 => by
      obtain ⟨a, xs, rfl, _, hs, sq⟩ := g1.seq (K := X.K)
      rw [strsE hs] at sq
      exact a_nil ⟨a, zs, rfl, .inr sq, hl, q _ H1 s1 (.bl _)⟩
end
/-- a def of one argument, by its promise -/
theorem Fun.ok1 {P : Program} {w : World} {K : PySem.W.Frag} {mg : Str → Option Value} {base : Heap} {x qual : Str} {st : Stmt} {f : Addr} {fd : FuncData} {N : List Str} {y : Str} {k : Nat} {φ : PyData → Bool} (F : Fun K x qual st f fd) (S : FnScope N [y] (defScope st))
    (body : ∀ (cdv : Value) (B : Around) (out : List Env) (s : Shared) (H : Hp) (E : XK) (d : PyData), Room k (B.deeper (envOfC qual (defScope st) s.heap.objs.size f cdv)) → okS d = true →
      LD (cxOf CX0 P w K mg base N qual (defScope st) f cdv B out s H E).nox (startD N [d]) (defBody st) (.ret (.bool (φ d)))) : FnOk P w K mg base CX0 (k + 1) f fd [y] (spB φ) :=
  FnOk.to (Fun.okD (Fn := F1 φ) F S F1_len fun cdv B out s H E ds r hr h => by
    obtain ⟨d, rfl, hk, rfl⟩ := F1_inv h
    exact body cdv B out s H E d hr hk) fun vs H Q E h => spB_D' h
/-! more rules -/
section
variable {X : Cx} {ρ : Rho} {a b c e : Expr} {es rest : List Expr} {d d1 d2 : PyData} {ds ds2 : List PyData} {pos p p2 p3 pc pt : Pos} {x y : Str} {k m : Bool} {st : Stmt} {l l1 l2 : List Stmt}
theorem LD.cast {d' : PyData} (h : LD X ρ l (.ret d)) (q : d = d') : LD X ρ l (.ret d') := q ▸ h
theorem WD.cast {k' : Bool} (h : WD X ρ e k) (q : k = k') : WD X ρ e k' := q ▸ h
theorem wd_tupN1 {a2 : Expr} {n : Nat} {j} (G : X.mg "isinstance" = none ∧ X.mg "tuple" = none ∧ X.mg "len" = none) (h : ED X ρ a d) (hB : ED X ρ a2 d) (hg : Gl X "isinstance" := by rfl) (hgT : Gl X "tuple" := by rfl) (hgl : Gl X "len" := by rfl) {q1 q2 q3 q4 q5 q6 q7 : Pos}
    (he : starEach [a, .Name "tuple" q2] X.env = (false, eval a X.env) :: starEach [.Name "tuple" q2] X.env := by rfl) (he2 : starEach [a2] X.env = (false, eval a2 X.env) :: starEach [] X.env := by rfl)
    (hi1 : ∀ whole, isTrue (.Call (.Name "isinstance" q1) [a, .Name "tuple" q2] [] q3) X.env whole = (do let v ← whole; standAt q3; holding [v] (truthy v)) := by intro _; rfl) :
    WD X ρ (.BoolOp .Or [.UnaryOp .Not (.Call (.Name "isinstance" q1) [a, .Name "tuple" q2] [] q3) q4, .Compare (.Call (.Name "len" q5) [a2] [] q6) [.NotEq] [.Constant (.int n) j p] q7] pos) (!tupN d n) := by
  have e : (!tupN d n) = (!isTup d || !decide ((els d).length = n)) := by unfold tupN; cases isTup d <;> rfl
  rw [e]
  refine wd_or (td_not (td_val (d_isTup G.1 G.2.1 h hg hgT he) hi1)) fun ht => wd_or1 ?_
  have ht' : isTup d = true := by simpa using ht
  exact td_cmp o_neI (d_len (ds := els d) G.2.2 (hB.cast (els_tup ht')) hgl he2) (d_int _) ⟨_, _, rfl, rfl, congrArg Bool.not (dec_cast _ _).symm⟩ (by exact nomark _)
/-- not isinstance(x, tuple) or not lo <= len(x) <= hi -/
theorem wd_tupB {a2 : Expr} {lo hi : Int} {el eh : Expr} (G : X.mg "isinstance" = none ∧ X.mg "tuple" = none ∧ X.mg "len" = none) (h : ED X ρ a d) (hB : ED X ρ a2 d) (h1 : ED X ρ el (.int lo)) (h2 : ED X ρ eh (.int hi)) (hg : Gl X "isinstance" := by rfl) (hgT : Gl X "tuple" := by rfl) (hgl : Gl X "len" := by rfl) {q1 q2 q3 q4 q5 q6 q7 q8 : Pos}
    (he : starEach [a, .Name "tuple" q2] X.env = (false, eval a X.env) :: starEach [.Name "tuple" q2] X.env := by rfl) (he2 : starEach [a2] X.env = (false, eval a2 X.env) :: starEach [] X.env := by rfl)
    (hi1 : ∀ whole, isTrue (.Call (.Name "isinstance" q1) [a, .Name "tuple" q2] [] q3) X.env whole = (do let v ← whole; standAt q3; holding [v] (truthy v)) := by intro _; rfl)
    (hm : lastMarks [.LtE, .LtE] [.Call (.Name "len" q5) [a2] [] q6, eh] = false := by with_unfolding_all rfl) :
    WD X ρ (.BoolOp .Or [.UnaryOp .Not (.Call (.Name "isinstance" q1) [a, .Name "tuple" q2] [] q3) q4, .UnaryOp .Not (.Compare el [.LtE, .LtE] [.Call (.Name "len" q5) [a2] [] q6, eh] q7) q8] pos) (!tupD lo hi (fun _ => true) d) := by
  have e : (!tupD lo hi (fun _ => true) d) = (!isTup d || !(decide (lo ≤ ((els d).length : Int)) && decide (((els d).length : Int) ≤ hi))) := by
    cases d with
    | tuple ds =>
      show (!(decide (lo ≤ (ds.length : Int)) && decide ((ds.length : Int) ≤ hi) && ds.all fun _ => true)) = (false || !(decide (lo ≤ (ds.length : Int)) && decide ((ds.length : Int) ≤ hi)))
      have : (ds.all fun _ => true) = true := by simp
      rw [this, Bool.and_true, Bool.false_or]
    | _ => rfl
  rw [e]
  refine wd_or (td_not (td_val (d_isTup G.1 G.2.1 h hg hgT he) hi1)) fun ht => wd_or1 (td_not ?_)
  have ht' : isTup d = true := by simpa using ht
  exact td_btw h1 (d_len (ds := els d) G.2.2 (hB.cast (els_tup ht')) hgl he2) (fun _ => h2) hm
theorem tup2 (h : tupN d 2 = true) : d = .tuple [at' d 0, at' d 1] := by
  obtain ⟨h1, h2⟩ := tupN_tup h
  cases d with
  | tuple ds => match ds, h2 with | [_, _], _ => rfl
  | _ => cases h1
theorem tup3 (h : tupN d 3 = true) : d = .tuple [at' d 0, at' d 1, at' d 2] := by
  obtain ⟨h1, h2⟩ := tupN_tup h
  cases d with
  | tuple ds => match ds, h2 with | [_, _, _], _ => rfl
  | _ => cases h1
theorem tup4 (h : tupN d 4 = true) : d = .tuple [at' d 0, at' d 1, at' d 2, at' d 3] := by
  obtain ⟨h1, h2⟩ := tupN_tup h
  cases d with
  | tuple ds => match ds, h2 with | [_, _, _, _], _ => rfl
  | _ => cases h1
theorem map_bool (g : PyData → Bool) (ds : List PyData) : ds.map (fun x => PyData.bool (g x)) = (ds.map g).map PyData.bool := by rw [List.map_map]; rfl
section
variable {elt iter : Expr} {scope : Scope}
theorem d_allT (j : Nat) (g : PyData → Bool) (hm : X.mg "all" = none) (hN : X.N.Nodup) (okb : BlkOk X.N X.env.scope scope [(x, j)]) (h : ED X ρ iter (.tuple ds)) (l : ds.length ≤ 1000) (hel : ∀ d ∈ ds, BD X scope (ρ.set j (some d)) elt (.bool (g d)))
    (hg : ∀ (s : Shared) (H : Hp) (C : Addr) (cl : List (Str × Addr)) (fp : List Addr), PG (X.blk s H scope (compEnvC scope cl C X.env) fp) (.Name x pt) (gName j))
    (hgl : Gl X "all" := by rfl) (hc : X.calm = true := by rfl) (hs : ∀ z, foldedSetIterable iter X.env z = pure z := by intro _; rfl)
    (he : starEach [.ListComp elt [⟨.Name x pt, iter, [], 0⟩] scope pc] X.env = (false, eval (.ListComp elt [⟨.Name x pt, iter, [], 0⟩] scope pc) X.env) :: starEach [] X.env := by rfl) :
    ED X ρ (.Call (.Name "all" p) [.ListComp elt [⟨.Name x pt, iter, [], 0⟩] scope pc] [] pos) (.bool (ds.all g)) := by
  have h1 := d_all hm ((d_lcT (pos := pc) (n := 0) j (fun d => .bool (g d)) hN okb h l hel hg hc hs).cast (by rw [map_bool])) hgl hc he (p := p) (pos := pos)
  exact h1.cast (by rw [List.all_map]; rfl)
theorem d_anyT (j : Nat) (g : PyData → Bool) (hm : X.mg "any" = none) (hN : X.N.Nodup) (okb : BlkOk X.N X.env.scope scope [(x, j)]) (h : ED X ρ iter (.tuple ds)) (l : ds.length ≤ 1000) (hel : ∀ d ∈ ds, BD X scope (ρ.set j (some d)) elt (.bool (g d)))
    (hg : ∀ (s : Shared) (H : Hp) (C : Addr) (cl : List (Str × Addr)) (fp : List Addr), PG (X.blk s H scope (compEnvC scope cl C X.env) fp) (.Name x pt) (gName j))
    (hgl : Gl X "any" := by rfl) (hc : X.calm = true := by rfl) (hs : ∀ z, foldedSetIterable iter X.env z = pure z := by intro _; rfl)
    (he : starEach [.ListComp elt [⟨.Name x pt, iter, [], 0⟩] scope pc] X.env = (false, eval (.ListComp elt [⟨.Name x pt, iter, [], 0⟩] scope pc) X.env) :: starEach [] X.env := by rfl) :
    ED X ρ (.Call (.Name "any" p) [.ListComp elt [⟨.Name x pt, iter, [], 0⟩] scope pc] [] pos) (.bool (ds.any g)) := by
  have h1 := d_any hm ((d_lcT (pos := pc) (n := 0) j (fun d => .bool (g d)) hN okb h l hel hg hc hs).cast (by rw [map_bool])) hgl hc he (p := p) (pos := pos)
  exact h1.cast (by rw [List.any_map]; rfl)
end
theorem tupD_no {lo hi : Int} {f : PyData → Bool} (h : tupD lo hi (fun _ => true) d = false) : tupD lo hi f d = false := by
  cases d with
  | tuple ds =>
    have h' : (decide (lo ≤ (ds.length : Int)) && decide ((ds.length : Int) ≤ hi) && ds.all fun _ => true) = false := h
    have e : (ds.all fun _ => true) = true := by simp
    rw [e, Bool.and_true] at h'
    show (decide (lo ≤ (ds.length : Int)) && decide ((ds.length : Int) ≤ hi) && ds.all f) = false
    rw [h']; rfl
  | _ => rfl
theorem tupD_yes {lo hi : Int} {f : PyData → Bool} (h : tupD lo hi (fun _ => true) d = true) : tupD lo hi f d = (els d).all f := by
  cases d with
  | tuple ds =>
    have h' : (decide (lo ≤ (ds.length : Int)) && decide ((ds.length : Int) ≤ hi) && ds.all fun _ => true) = true := h
    have e : (ds.all fun _ => true) = true := by simp
    rw [e, Bool.and_true] at h'
    show (decide (lo ≤ (ds.length : Int)) && decide ((ds.length : Int) ≤ hi) && ds.all f) = ds.all f
    rw [h']; rfl
  | _ => cases h
theorem d_subI {i j : Int} (ha : ED X ρ a (.int i)) (hb : ED X ρ b (.int j)) : ED X ρ (.BinOp a .Sub b pos) (.int (i - j)) := fun S σ H Q sl q =>
  e_subI (ha S σ H _ sl fun v H1 s1 g1 => hb S σ H1 _ (sl.same s1) fun u H2 s2 g2 => by cases g1; cases g2; exact ⟨i, j, rfl, rfl, q _ H2 (s1.trans s2) (.int _)⟩)
theorem d_addI {i j : Int} (ha : ED X ρ a (.int i)) (hb : ED X ρ b (.int j)) : ED X ρ (.BinOp a .Add b pos) (.int (i + j)) := fun S σ H Q sl q =>
  e_addI (ha S σ H _ sl fun v H1 s1 g1 => hb S σ H1 _ (sl.same s1) fun u H2 s2 g2 => by cases g1; cases g2; exact ⟨i, j, rfl, rfl, q _ H2 (s1.trans s2) (.int _)⟩)
theorem nb {b : Bool} (h : (!b) = true) : b = false := by cases b with | false => rfl | true => cases h
theorem nb' {b : Bool} (h : (!b) = false) : b = true := by cases b with | true => rfl | false => cases h
/-- the labels: [x[i] for x in a tuple] -/
theorem labs_data {d : PyData} {i : Nat} (h : ∀ x ∈ els d, ∃ z, at' x i = .str z) : (els d).map (fun x => at' x i) = (labs d i).map PyData.str := by
  unfold labs
  rw [List.map_map]
  refine List.map_congr_left fun x hx => ?_
  obtain ⟨z, e⟩ := h x hx
  show at' x i = PyData.str (My.strOf (at' x i))
  rw [e]; rfl
theorem FnOk.up {P : Program} {w : World} {K : PySem.W.Frag} {mg : Str → Option Value} {base : Heap} {k k' : Nat} {f : Addr} {fd : FuncData} {ps : List Str} {sp : Sp} (h : FnOk P w K mg base CX0 k f fd ps sp) (l : k ≤ k') : FnOk P w K mg base CX0 k' f fd ps sp :=
  ⟨h.len, fun B out s H ar us vs Q E r e b v q => h.run B out s H ar us vs Q E (r.mono l) e b v q⟩
end
end My

namespace My
open PySem PySem.Spec PyProof.Rows L2
def cutD (ds : List PyData) (lo hi : Option Int) : List PyData := (ds.drop (HT.sIx ds.length 0 lo)).take (HT.sIx ds.length ds.length hi - HT.sIx ds.length 0 lo)
theorem DGs.takeG {S : Addr → Prop} {H : Hp} : ∀ {vs : List V} {ds : List PyData} (n : Nat), DGs S H vs ds → DGs S H (vs.take n) (ds.take n)
  | _, _, 0, _ => by simp only [List.take_zero]; exact .nil
  | _, _, _ + 1, .nil => .nil
  | _, _, n + 1, .cons h hs => .cons h (hs.takeG n)
theorem DGs.dropG {S : Addr → Prop} {H : Hp} : ∀ {vs : List V} {ds : List PyData} (n : Nat), DGs S H vs ds → DGs S H (vs.drop n) (ds.drop n)
  | _, _, 0, h => h
  | _, _, _ + 1, .nil => .nil
  | _, _, n + 1, .cons _ hs => hs.dropG n
theorem DGs.cut {S : Addr → Prop} {H : Hp} {vs : List V} {ds : List PyData} (h : DGs S H vs ds) (lo hi : Option Int) : DGs S H (cutV vs lo hi) (cutD ds lo hi) := by
  unfold cutV cutD
  rw [← h.length]
  exact (h.dropG _).takeG _
theorem cut_whole {ds : List PyData} {lo hi : Option Int} (h : HT.sIx ds.length 0 lo = 0 ∧ HT.sIx ds.length ds.length hi = ds.length) : cutD ds lo hi = ds := by
  unfold cutD
  rw [h.1, h.2, Nat.sub_zero, List.drop_zero, List.take_length]
section
variable {X : Cx} {ρ : Rho} {a b c e lo hi : Expr} {es rest : List Expr} {d d1 d2 : PyData} {ds ds2 : List PyData} {pos p p2 p3 pc pt : Pos} {x y : Str} {k m : Bool} {st : Stmt} {l l1 l2 : List Stmt}
theorem slT_end {S : Addr → Prop} {H H2 : Hp} {Q : VK} {v : V} {lo hi : Option Int} (s1 : Same H H2) (g1 : DG S H2 v (.tuple ds)) (q : ∀ v H', Same H H' → DG S H' v (.tuple (cutD ds lo hi)) → Q v H') : rSlA X.K v lo hi H2 Q := by
  obtain ⟨a, xs, rfl, ha, hs, sq⟩ := g1.seq (K := X.K)
  refine ⟨a, xs, rfl, sq, fun hw => ?_, fun _ p hp => q _ _ (s1.trans (same_new hp)) (.tup upd_same ((hs.cut lo hi).same (same_new hp)))⟩
  rw [hs.length] at hw
  refine q _ H2 s1 ?_
  rw [cut_whole hw]
  exact .tup ha hs
theorem d_slFrom {i : Int} (h : ED X ρ e (.tuple ds)) (h1 : ED X ρ lo (.int i)) : ED X ρ (.Subscript e (.Slice (some lo) none none p2) pos) (.tuple (cutD ds (some i) none)) := fun S σ H Q sl q =>
  toE (pe_slice sl_tupA pE (po_some pE) po_none) (h S σ H _ sl fun v H1 s1 g1 => h1 S σ H1 _ (sl.same s1) fun u H2 s2 g2 => by cases g2; exact ⟨i, rfl, slT_end (s1.trans s2) (g1.same s2) q⟩)
theorem d_slTo {i : Int} (h : ED X ρ e (.tuple ds)) (h1 : ED X ρ hi (.int i)) : ED X ρ (.Subscript e (.Slice none (some hi) none p2) pos) (.tuple (cutD ds none (some i))) := fun S σ H Q sl q =>
  toE (pe_slice sl_tupA pE po_none (po_some pE)) (h S σ H _ sl fun v H1 s1 g1 => h1 S σ H1 _ (sl.same s1) fun u H2 s2 g2 => by cases g2; exact ⟨i, rfl, slT_end (s1.trans s2) (g1.same s2) q⟩)
theorem d_sl2 {i j : Int} (h : ED X ρ e (.tuple ds)) (h1 : ED X ρ lo (.int i)) (h2 : ED X ρ hi (.int j)) : ED X ρ (.Subscript e (.Slice (some lo) (some hi) none p2) pos) (.tuple (cutD ds (some i) (some j))) := fun S σ H Q sl q =>
  toE (pe_slice sl_tupA pE (po_some pE) (po_some pE)) (h S σ H _ sl fun v H1 s1 g1 => h1 S σ H1 _ (sl.same s1) fun u H2 s2 g2 => by
    cases g2
    exact ⟨i, rfl, h2 S σ H2 _ (sl.same (s1.trans s2)) fun u2 H3 s3 g3 => by cases g3; exact ⟨j, rfl, slT_end (s1.trans (s2.trans s3)) ((g1.same s2).same s3) q⟩⟩)
/-! not in -/
theorem o_notInS : OpR X (compareOp .NotIn) (rP fun d e b => ∃ (z : Str) (zs : List Str), d = .str z ∧ e = .tuple (zs.map PyData.str) ∧ b = !decide (z ∈ zs)) := fun pins s σ H x y v u Q I rx ry ⟨S, d, e, b, g1, g2, ⟨z, zs, e1, e2, e3⟩, q⟩ => by
  subst e1 e2 e3
  cases g1
  obtain ⟨a, xs, rfl, ha, hs, sq⟩ := g2.seq (K := X.K)
  rw [strsE hs] at sq
  refine op_notIn_seq pins s σ H _ _ v u Q I rx ry ⟨a, _, rfl, .inr sq, rfl, flat_strs' _, ?_⟩
  show Q (.bl (!inV (.str z) (zs.map V.str))) H
  rw [inV_strs]
  exact q
theorem o_notInI : OpR X (compareOp .NotIn) (rP fun d e b => ∃ (i : Int) (is : List Int), d = .int i ∧ e = .tuple (is.map PyData.int) ∧ b = !decide (i ∈ is)) := fun pins s σ H x y v u Q I rx ry ⟨S, d, e, b, g1, g2, ⟨i, is, e1, e2, e3⟩, q⟩ => by
  subst e1 e2 e3
  cases g1
  obtain ⟨a, xs, rfl, ha, hs, sq⟩ := g2.seq (K := X.K)
  have ex : ∀ {xs : List V} {is : List Int}, DGs S H xs (is.map PyData.int) → xs = is.map V.int ∧ (xs.all flatV) = true ∧ inV (.int i) xs = decide (i ∈ is) := fun {xs is} h => by
    induction is generalizing xs with
    | nil => cases h; exact ⟨rfl, rfl, rfl⟩
    | cons j is ih =>
      cases h with
      | cons h hs =>
        cases h
        obtain ⟨e1, e2, e3⟩ := ih hs
        refine ⟨by rw [e1]; rfl, by rw [List.all_cons, e2]; rfl, ?_⟩
        show ((eqV (.int j) (.int i)) || inV (.int i) _) = _
        rw [e3]
        apply Bool.eq_iff_iff.mpr
        rw [Bool.or_eq_true, decide_eq_true_eq, decide_eq_true_eq, List.mem_cons]
        have : eqV (.int j) (.int i) = true ↔ i = j := by
          show ((j == i) = true) ↔ i = j
          rw [beq_iff_eq]
          exact eq_comm
        rw [this]
  obtain ⟨e1, e2, e3⟩ := ex hs
  refine op_notIn_seq pins s σ H _ _ v u Q I rx ry ⟨a, _, rfl, .inr sq, rfl, e2, ?_⟩
  show Q (.bl (!inV (.int i) xs)) H
  rw [e3]
  exact q
/-- 'a' <= x <= 'z', texts -/
theorem d_btwS {i j o : Str} (ha : ED X ρ a (.str i)) (hb : ED X ρ b (.str j)) (hc : ED X ρ c (.str o)) (hm : lastMarks [.LtE, .LtE] [b, c] = false := by with_unfolding_all rfl) : ED X ρ (.Compare a [.LtE, .LtE] [b, c] pos) (.bool (!decide (lt j i) && !decide (lt o j))) := fun S σ H Q sl q =>
  e_btwS (ha S σ H _ sl fun v H1 s1 g1 => hb S σ H1 _ (sl.same s1) fun u H2 s2 g2 => by
    cases g1; cases g2
    refine ⟨i, j, rfl, rfl, fun h => hc S σ H2 _ (sl.same (s1.trans s2)) fun w H3 s3 g3 => ?_, fun h => ?_⟩
    · cases g3
      have h' : ¬ lt j i := h
      rw [decide_eq_false h', Bool.not_false, Bool.true_and] at q
      exact ⟨o, rfl, q _ H3 (s1.trans (s2.trans s3)) (.bl _)⟩
    · have h' : lt j i := h
      rw [decide_eq_true h', Bool.not_true, Bool.false_and] at q
      exact q _ H2 (s1.trans s2) (.bl _)) hm

section
variable {elt iter : Expr} {scope : Scope}
theorem d_allS {z : Str} (j : Nat) (g : Nat → Bool) (hm : X.mg "all" = none) (hN : X.N.Nodup) (okb : BlkOk X.N X.env.scope scope [(x, j)]) (h : ED X ρ iter (.str z)) (l : z.length ≤ 1000) (hel : ∀ c ∈ z.cps.toList, BD X scope (ρ.set j (some (.str ⟨#[c]⟩))) elt (.bool (g c)))
    (hg : ∀ (s : Shared) (H : Hp) (C : Addr) (cl : List (Str × Addr)) (fp : List Addr), PG (X.blk s H scope (compEnvC scope cl C X.env) fp) (.Name x pt) (gName j))
    (hgl : Gl X "all" := by rfl) (hc : X.calm = true := by rfl) (hs : ∀ z, foldedSetIterable iter X.env z = pure z := by intro _; rfl)
    (he : starEach [.ListComp elt [⟨.Name x pt, iter, [], 0⟩] scope pc] X.env = (false, eval (.ListComp elt [⟨.Name x pt, iter, [], 0⟩] scope pc) X.env) :: starEach [] X.env := by rfl) :
    ED X ρ (.Call (.Name "all" p) [.ListComp elt [⟨.Name x pt, iter, [], 0⟩] scope pc] [] pos) (.bool (z.cps.toList.all g)) := by
  have h1 := d_all hm ((d_lcS (pos := pc) j (fun c => .bool (g c)) hN okb h l hel hg hc hs).cast (by rw [show (fun c => PyData.bool (g c)) = PyData.bool ∘ g from rfl, ← List.map_map])) hgl hc he (p := p) (pos := pos)
  exact h1.cast (by rw [List.all_map]; rfl)
end
/-! defs that may ask a repr -/
theorem d_fnG {kk j : Nat} {f : PyData → Bool} (cF : CalG X.prog X.w X.K X.mg X.base kk x (spB f)) (hr : Room j X.A) (hG : X.A.guards = some []) (hk : kk ≤ j) (h : ED X ρ e d) (ok : okS d = true) (hg : Gl X x := by rfl)
    (hdb : (x == ("__debug__" : Str)) = false := by decide) (he : starEach [e] X.env = (false, eval e X.env) :: starEach [] X.env := by rfl) : ED X ρ (.Call (.Name x p) [e] [] pos) (.bool (f d)) := fun S σ H Q sl q =>
  e_cG cF hr hG hk (a_cons (h S σ H _ sl fun v H1 s1 g1 => a_nil ⟨S, v, d, rfl, g1, ok, fun H2 s2 => q _ H2 (s1.trans s2) (.bl _)⟩) he) hg hdb he rfl
theorem FnG.to {P : Program} {w : World} {K : PySem.W.Frag} {mg : Str → Option Value} {base : Heap} {k : Nat} {f : Addr} {fd : FuncData} {ps : List Str} {sp sp' : Sp} (h : FnG P w K mg base k f fd ps sp) (i : ∀ vs H Q E, sp' vs H Q E → sp vs H Q E) : FnG P w K mg base k f fd ps sp' :=
  ⟨fun vs H Q E q => h.len vs H Q E (i vs H Q E q), fun B out s H ar us vs Q E r g e b v q => h.go B out s H ar us vs Q E r g e b v (i vs H Q E q)⟩
theorem Fun.ok1G {P : Program} {w : World} {K : PySem.W.Frag} {mg : Str → Option Value} {base : Heap} {x qual : Str} {st : Stmt} {f : Addr} {fd : FuncData} {N : List Str} {y : Str} {k : Nat} {φ : PyData → Bool} (F : Fun K x qual st f fd) (S : FnScope N [y] (defScope st))
    (body : ∀ (cdv : Value) (B : Around) (out : List Env) (s : Shared) (H : Hp) (E : XK) (d : PyData), Room k (B.deeper (envOfC qual (defScope st) s.heap.objs.size f cdv)) → (B.deeper (envOfC qual (defScope st) s.heap.objs.size f cdv)).guards = some [] → okS d = true →
      LD (cxOf CX0 P w K mg base N qual (defScope st) f cdv B out s H E).nox (startD N [d]) (defBody st) (.ret (.bool (φ d)))) : FnG P w K mg base (k + 1) f fd [y] (spB φ) :=
  FnG.to (Fun.okDG (Fn := F1 φ) F S F1_len fun cdv B out s H E ds r hr hG h => by
    obtain ⟨d, rfl, hk, rfl⟩ := F1_inv h
    exact body cdv B out s H E d hr hG hk) fun vs H Q E h => spB_D' h
end


theorem shaped_listS {zs : List Str} (h : zs.all valS = true) : SeqAt.shaped (.list (zs.map PyData.str)) = true := by
  show (PyData.canLayAll0 (zs.map PyData.str) && decide (PyData.depthAll (zs.map PyData.str) + 1 ≤ 64)) = true
  rw [lay_strs h, depth_strs]
  rfl
theorem eqvL_strs (zs ys : List Str) : PyData.eqv (.list (zs.map PyData.str)) (.list (ys.map PyData.str)) = decide (zs = ys) := eqv_strs zs ys
theorem eqvT_strs (zs ys : List Str) : PyData.eqv (.tuple (zs.map PyData.str)) (.tuple (ys.map PyData.str)) = decide (zs = ys) := eqv_strs zs ys
/-! ### which data have the text of a word -/
theorem rt_fold (q : Nat) : ∀ (l : List Nat) (acc : Array Nat), (l.foldl (fun out c => out ++ (Builtin.Str.reprChar q c).toArray) acc).toList = acc.toList ++ l.flatMap (Builtin.Str.reprChar q)
  | [], acc => by simp
  | c :: l, acc => by
    rw [List.foldl_cons, rt_fold q l, Array.toList_append, List.flatMap_cons, List.append_assoc]
theorem rt_codes (z : Str) : (reprText z).cps.toList = reprQuote z :: (z.cps.toList.flatMap (Builtin.Str.reprChar (reprQuote z)) ++ [reprQuote z]) := by
  unfold reprText
  show ((z.cps.foldl (fun out c => out ++ (Builtin.Str.reprChar (reprQuote z) c).toArray) #[reprQuote z]).push (reprQuote z)).toList = _
  rw [Array.toList_push, ← Array.foldl_toList, rt_fold]
  rfl
theorem rc_or (c : Nat) : Builtin.Str.reprChar 39 c = [c] ∨ 92 ∈ Builtin.Str.reprChar 39 c := by
  unfold Builtin.Str.reprChar
  dsimp only
  split
  · exact .inr (by simp)
  · split
    · exact .inr (by simp)
    · split
      · exact .inr (by simp)
      · split
        · exact .inr (by simp)
        · split
          · exact .inl rfl
          · split
            · exact .inr (by simp)
            · split
              · exact .inr (by simp)
              · exact .inr (by simp)
theorem rc_low : ∀ c, 97 ≤ c → c ≤ 122 → Builtin.Str.reprChar 39 c = [c] := by
  have h : ∀ k, k < 26 → Builtin.Str.reprChar 39 (97 + k) = [97 + k] := by decide +kernel
  intro c h1 h2
  have := h (c - 97) (by omega)
  rwa [show 97 + (c - 97) = c by omega] at this
theorem flat_id (f : Nat → List Nat) : ∀ l : List Nat, (∀ c ∈ l, f c = [c]) → l.flatMap f = l
  | [], _ => rfl
  | c :: l, h => by
    rw [List.flatMap_cons, h c List.mem_cons_self, flat_id f l fun x hx => h x (List.mem_cons_of_mem _ hx)]
    rfl
def lowB (w : Str) : Bool := w.cps.toList.all fun c => decide (97 ≤ c) && decide (c ≤ 122)
theorem rt_low {w : Str} (h : lowB w = true) : (reprText w).cps.toList = 39 :: (w.cps.toList ++ [39]) := by
  have hw : ∀ c ∈ w.cps.toList, 97 ≤ c ∧ c ≤ 122 := fun c hc => by
    have := List.all_eq_true.mp h c hc
    rwa [Bool.and_eq_true, decide_eq_true_eq, decide_eq_true_eq] at this
  have q : reprQuote w = 39 := by
    unfold reprQuote
    have : w.cps.contains 39 = false := by
      cases e : w.cps.contains 39 with
      | false => rfl
      | true =>
        have m := Array.contains_iff.mp e
        have := hw 39 (Array.mem_toList_iff.mpr m)
        omega
    rw [this]; rfl
  rw [rt_codes, q, flat_id _ _ fun c hc => rc_low c (hw c hc).1 (hw c hc).2]
theorem head_cat (a : Nat) (x y : Str) (h : x.cps.toList.head? = some a) : (x ++ y).cps.toList.head? = some a := by
  rw [str_cat]
  cases e : x.cps.toList with
  | nil => rw [e] at h; cases h
  | cons b l => rw [e] at h; exact h
theorem shown_head {d : PyData} (hd : okE d = true) (h : isStr d = false) : d.shown.cps.toList.head? ≠ some 39 := by
  match d, hd, h with
  | .none, _, _ => decide +kernel
  | .bool true, _, _ => decide +kernel
  | .bool false, _, _ => decide +kernel
  | .int i, hd, _ =>
    have h' : ((PyData.int i).showable && decide ((PyData.int i).shown.length ≤ 60) && decide ((PyData.int i).shown.cps.toList.head? ≠ some 39)) = true := hd
    rw [Bool.and_eq_true] at h'
    exact of_decide_eq_true h'.2
  | .list ds, _, _ =>
    intro e
    have e2 : (PyData.list ds).shown = listText (PyData.shownAll ds) := by simp only [PyData.shown]
    rw [e2, listText_eq_join, head_cat 91 _ _ (head_cat 91 _ _ (by decide +kernel))] at e
    cases e
  | .tuple ds, _, _ =>
    intro e
    have e2 : (PyData.tuple ds).shown = tupleText (PyData.shownAll ds) := by simp only [PyData.shown]
    rw [e2] at e
    unfold tupleText at e
    rw [head_cat 40 _ _ (head_cat 40 _ _ (by decide +kernel))] at e
    cases e
  | .dict kvs, _, _ =>
    intro e
    have e2 : (PyData.dict kvs).shown = dictText (PyData.shownKv kvs) := by simp only [PyData.shown]
    rw [e2] at e
    unfold dictText at e
    rw [head_cat 123 _ _ (head_cat 123 _ _ (by decide +kernel))] at e
    cases e
  | .str _, _, h => cases h
theorem shown_is {d : PyData} {w t : Str} (hd : okE d = true) (hw : lowB w = true) (ht : t = reprText w) : decide (d.shown = t) = eqS d w := by
  subst ht
  apply Bool.eq_iff_iff.mpr
  rw [decide_eq_true_eq]
  cases hs : isStr d with
  | false =>
    have e : eqS d w = false := by cases d <;> first | rfl | cases hs
    rw [e]
    refine ⟨fun h => ?_, fun h => by cases h⟩
    have := shown_head hd hs
    rw [h, rt_low hw] at this
    exact absurd rfl this
  | true =>
    cases d with
    | str z =>
      show reprText z = reprText w ↔ decide (z = w) = true
      rw [decide_eq_true_eq]
      refine ⟨fun h => ?_, fun h => by rw [h]⟩
      have h2 : (reprText z).cps.toList = (reprText w).cps.toList := by rw [h]
      rw [rt_low hw, rt_codes] at h2
      injection h2 with q h3
      rw [q] at h3
      have h4 := List.append_cancel_right h3
      have hall : ∀ c ∈ z.cps.toList, Builtin.Str.reprChar 39 c = [c] := fun c hc => by
        rcases rc_or c with e | e
        · exact e
        · exfalso
          have m : 92 ∈ w.cps.toList := by rw [← h4]; exact List.mem_flatMap.mpr ⟨c, hc, e⟩
          have := List.all_eq_true.mp hw 92 m
          simp at this
      rw [flat_id _ _ hall] at h4
      exact str_ext h4
    | _ => cases hs
end My

namespace My
open PySem PySem.Spec PyProof.Rows L2
def lenB (d : PyData) : Bool := isStr d && (decide (1 ≤ (My.strOf d).length) && decide ((My.strOf d).length ≤ 8))
theorem isStr_eq {d : PyData} (h : isStr d = true) : d = .str (My.strOf d) := by cases d <;> first | rfl | cases h
theorem dec_le (a b : Nat) : decide ((a : Int) ≤ (b : Int)) = decide (a ≤ b) := by
  apply Bool.eq_iff_iff.mpr
  rw [decide_eq_true_eq, decide_eq_true_eq]
  exact Int.ofNat_le
theorem valD_len (d : PyData) : valD d = (lenB d && (My.strOf d).cps.toList.all letB) := by
  cases d with
  | str z =>
    show (decide (1 ≤ z.length) && decide (z.length ≤ 8) && z.cps.toList.all letB) = ((true && (decide (1 ≤ z.length) && decide (z.length ≤ 8))) && z.cps.toList.all letB)
    rw [Bool.true_and]
  | _ => rfl
section
variable {X : Cx} {ρ : Rho} {a a2 b c e : Expr} {es rest : List Expr} {d d1 d2 : PyData} {ds ds2 : List PyData} {pos p p2 p3 pc pt : Pos} {x y : Str} {k m : Bool}
/-- not isinstance(x, str) or not 1 <= len(x) <= 8 -/
theorem wd_strB1 {j1 j2 q10 q11} (G : X.mg "isinstance" = none ∧ X.mg "str" = none ∧ X.mg "len" = none) (h : ED X ρ a d) (hB : ED X ρ a2 d) (ok : okS d = true) (hg : Gl X "isinstance" := by rfl) (hgT : Gl X "str" := by rfl) (hgl : Gl X "len" := by rfl) {q1 q2 q3 q4 q5 q6 q7 q8 : Pos}
    (he : starEach [a, .Name "str" q2] X.env = (false, eval a X.env) :: starEach [.Name "str" q2] X.env := by rfl) (he2 : starEach [a2] X.env = (false, eval a2 X.env) :: starEach [] X.env := by rfl)
    (hi1 : ∀ whole, isTrue (.Call (.Name "isinstance" q1) [a, .Name "str" q2] [] q3) X.env whole = (do let v ← whole; standAt q3; holding [v] (truthy v)) := by intro _; rfl)
    (hm : lastMarks [.LtE, .LtE] [.Call (.Name "len" q5) [a2] [] q6, .Constant (.int 8) j2 q11] = false := by with_unfolding_all rfl) :
    WD X ρ (.BoolOp .Or [.UnaryOp .Not (.Call (.Name "isinstance" q1) [a, .Name "str" q2] [] q3) q4, .UnaryOp .Not (.Compare (.Constant (.int 1) j1 q10) [.LtE, .LtE] [.Call (.Name "len" q5) [a2] [] q6, .Constant (.int 8) j2 q11] q7) q8] pos) (!lenB d) := by
  have e : (!lenB d) = (!isStr d || !(decide ((1 : Int) ≤ ((My.strOf d).length : Int)) && decide (((My.strOf d).length : Int) ≤ (8 : Int)))) := by
    unfold lenB
    rw [show decide ((1 : Int) ≤ ((My.strOf d).length : Int)) = decide (1 ≤ (My.strOf d).length) from dec_le 1 _, show decide (((My.strOf d).length : Int) ≤ (8 : Int)) = decide ((My.strOf d).length ≤ 8) from dec_le _ 8]
    cases isStr d <;> rfl
  rw [e]
  refine wd_or (td_not (td_val (d_isStr G.1 G.2.1 h hg hgT he) hi1)) fun ht => wd_or1 (td_not ?_)
  have hs := nb' ht
  have hz : (My.strOf d).length ≤ sizeLine := str_line (by rw [← isStr_eq hs]; exact ok)
  exact td_btw (d_int 1) (d_lenS G.2.2 hz (hB.cast (isStr_eq hs)) hgl he2) (fun _ => d_int 8) hm
theorem wd_strB {j1 j2 q10 q11} (G : X.mg "isinstance" = none ∧ X.mg "str" = none ∧ X.mg "len" = none) (h : ED X ρ a d) (hB : ED X ρ a2 d) (ok : okS d = true) (hr : lenB d = true → WD X ρ (.BoolOp .Or (b :: rest) pos) m) (hg : Gl X "isinstance" := by rfl) (hgT : Gl X "str" := by rfl) (hgl : Gl X "len" := by rfl) {q1 q2 q3 q4 q5 q6 q7 q8 : Pos}
    (he : starEach [a, .Name "str" q2] X.env = (false, eval a X.env) :: starEach [.Name "str" q2] X.env := by rfl) (he2 : starEach [a2] X.env = (false, eval a2 X.env) :: starEach [] X.env := by rfl)
    (hi1 : ∀ whole, isTrue (.Call (.Name "isinstance" q1) [a, .Name "str" q2] [] q3) X.env whole = (do let v ← whole; standAt q3; holding [v] (truthy v)) := by intro _; rfl)
    (hm : lastMarks [.LtE, .LtE] [.Call (.Name "len" q5) [a2] [] q6, .Constant (.int 8) j2 q11] = false := by with_unfolding_all rfl) :
    WD X ρ (.BoolOp .Or (.UnaryOp .Not (.Call (.Name "isinstance" q1) [a, .Name "str" q2] [] q3) q4 :: .UnaryOp .Not (.Compare (.Constant (.int 1) j1 q10) [.LtE, .LtE] [.Call (.Name "len" q5) [a2] [] q6, .Constant (.int 8) j2 q11] q7) q8 :: b :: rest) pos) (!lenB d || m) := by
  have e0 : lenB d = (isStr d && (decide ((1 : Int) ≤ ((My.strOf d).length : Int)) && decide (((My.strOf d).length : Int) ≤ (8 : Int)))) := by
    unfold lenB
    rw [show decide ((1 : Int) ≤ ((My.strOf d).length : Int)) = decide (1 ≤ (My.strOf d).length) from dec_le 1 _, show decide (((My.strOf d).length : Int) ≤ (8 : Int)) = decide ((My.strOf d).length ≤ 8) from dec_le _ 8]
  have e : (!lenB d || m) = (!isStr d || (!(decide ((1 : Int) ≤ ((My.strOf d).length : Int)) && decide (((My.strOf d).length : Int) ≤ (8 : Int))) || m)) := by
    rw [e0]
    cases isStr d <;> cases (decide ((1 : Int) ≤ ((My.strOf d).length : Int)) && decide (((My.strOf d).length : Int) ≤ (8 : Int))) <;> rfl
  rw [e]
  refine wd_or (td_not (td_val (d_isStr G.1 G.2.1 h hg hgT he) hi1)) fun ht => ?_
  have hs := nb' ht
  have hz : (My.strOf d).length ≤ sizeLine := str_line (by rw [← isStr_eq hs]; exact ok)
  exact wd_or (td_not (td_btw (d_int 1) (d_lenS G.2.2 hz (hB.cast (isStr_eq hs)) hgl he2) (fun _ => d_int 8) hm)) fun h2 => hr (by rw [e0, hs, nb' h2]; rfl)

section
variable {scope : Scope} {iter : Expr} {ja jz : _} {qa qb qc qd : Pos}
theorem d_letters (j : Nat) (hm : X.mg "all" = none) (hN : X.N.Nodup) (okb : BlkOk X.N X.env.scope scope [(x, j)]) (h : ED X ρ iter d) (hd : lenB d = true)
    (hel : ∀ c : Nat, BD X scope (ρ.set j (some (.str ⟨#[c]⟩))) (.Name x qb) (.str ⟨#[c]⟩))
    (hg : ∀ (s : Shared) (H : Hp) (C : Addr) (cl : List (Str × Addr)) (fp : List Addr), PG (X.blk s H scope (compEnvC scope cl C X.env) fp) (.Name x pt) (gName j))
    (hgl : Gl X "all" := by rfl) (hc : X.calm = true := by rfl) (hs : ∀ z, foldedSetIterable iter X.env z = pure z := by intro _; rfl)
    (he : starEach [.ListComp (.Compare (.Constant (.str "a") ja qa) [.LtE, .LtE] [.Name x qb, .Constant (.str "z") jz qc] qd) [⟨.Name x pt, iter, [], 0⟩] scope pc] X.env = (false, eval (.ListComp (.Compare (.Constant (.str "a") ja qa) [.LtE, .LtE] [.Name x qb, .Constant (.str "z") jz qc] qd) [⟨.Name x pt, iter, [], 0⟩] scope pc) X.env) :: starEach [] X.env := by rfl) :
    ED X ρ (.Call (.Name "all" p) [.ListComp (.Compare (.Constant (.str "a") ja qa) [.LtE, .LtE] [.Name x qb, .Constant (.str "z") jz qc] qd) [⟨.Name x pt, iter, [], 0⟩] scope pc] [] pos) (.bool ((My.strOf d).cps.toList.all letB)) := by
  have hs1 : isStr d = true := by unfold lenB at hd; rw [Bool.and_eq_true] at hd; exact hd.1
  have hl : (My.strOf d).length ≤ 8 := by unfold lenB at hd; rw [Bool.and_eq_true, Bool.and_eq_true] at hd; exact of_decide_eq_true hd.2.2
  refine d_allS j letB hm hN okb (h.cast (isStr_eq hs1)) (by omega) (fun c hc => ?_) hg hgl hc hs he
  intro s0 H00 C cl fp
  have e : letB c = (!decide (lt (⟨#[c]⟩ : Str) (Str.ofString "a")) && !decide (lt (Str.ofString "z") (⟨#[c]⟩ : Str))) := let_btw c
  rw [e]
  exact d_btwS (d_str _) (hel c s0 H00 C cl fp) (d_str _) (by with_unfolding_all rfl)
end
end
theorem SD.cast {X : Cx} {ρ : Rho} {st : Stmt} {o o' : Out} (h : SD X ρ st o) (e : o = o') : SD X ρ st o' := e ▸ h
section
variable {X : Cx} {ρ : Rho} {iter elt : Expr} {ds : List PyData} {pos spos py pt : Pos} {x y : Str} {scope : Scope}
theorem lcT_core (j : Nat) (f : PyData → PyData) {S : Addr → Prop} {σ : L2.St} {H : Hp} {Kq : Addr → Hp → Prop} (h : ED X ρ iter (.tuple ds)) (l : ds.length ≤ 1000) (hel : ∀ d ∈ ds, BD X scope (ρ.set j (some d)) elt (f d)) (sl : SL S H σ ρ) (q : ∀ Dn H', Same H H' → DG S H' (.ref Dn) (.list (ds.map f)) → Kq Dn H') :
    WE X iter σ H fun v H1 => ∃ a xs, v = .ref a ∧ SqT X.K H1 a xs ∧ ∀ D, H1 D = none → ∃ Pv : Nat → Hp → Prop, Pv 0 (L2.upd H1 D (.lst [])) ∧ (∀ i H, i ≤ xs.length → Pv i H → SqT X.K H a xs) ∧
      (∀ i y H, xs[i]? = some y → Pv i H → WB X scope elt ((L2.wipe σ [j]).set j (some y)) H fun z H4 => ∃ acc, H4 D = some (.lst acc) ∧ acc.length < sizeLine ∧ Pv (i + 1) (L2.upd H4 D (.lst (acc ++ [z])))) ∧ ∀ H, Pv xs.length H → Kq D H := by
  refine h S σ H _ sl fun v H1 s1 g1 => ?_
  obtain ⟨a, xs, rfl, ha, hds, sq⟩ := g1.seq (K := X.K)
  refine ⟨a, xs, rfl, sq, fun D nD => ?_⟩
  have sl1 := sl.same s1
  have slD := sl1.and1 (o := .lst []) nD
  have hdsD := hds.mono (T := And1 S D) (My.Same.tups (same_new (o := .lst []) nD)) fun a u n e => ⟨fun z => z.elim n fun z => (by rw [z, nD] at e; cases e), by rw [upd_ne (ne_of_none e nD)]; exact e⟩
  have lx := hds.length
  refine ⟨fun i H' => ∃ ys, (∀ b o, b ≠ D → (L2.upd H1 D (.lst [])) b = some o → H' b = some o) ∧ H' D = some (.lst ys) ∧ ys.length = i ∧ DGs (And1 S D) H' ys ((ds.take i).map f), ?_, ?_, ?_, ?_⟩
  · exact ⟨[], fun b o _ e => e, upd_same, rfl, .nil⟩
  · rintro i H' _ ⟨ys, k1, _⟩
    exact .inl (.inl (k1 a _ (ne_of_none ha nD) (same_new nD _ _ ha)))
  · rintro i y H' hi ⟨ys, k1, k2, k3, k4⟩ s0 H00 C cl fp
    obtain ⟨d, hd, hy⟩ := hdsD.get hi
    have keep : ∀ {v : V} {d : PyData}, DG (And1 S D) (L2.upd H1 D (.lst [])) v d → DG (And1 S D) H' v d := fun g => g.mono (fun b xs e => k1 b _ (ne_of e upd_same (fun z => by cases z)) e) fun a o n e => ⟨n, k1 a o (fun z => n (.inr z)) e⟩
    have slp : SL (And1 S D) H' σ ρ := ⟨fun b z w => by
      cases e : (L2.upd H1 D (.lst [])) b with
      | none => exact slD.dom b z e
      | some o =>
        by_cases bD : b = D
        · rw [bD, k2] at w; cases w
        · (rw [k1 b o bD e] at w; cases w), fun i d q => let ⟨v, a, b⟩ := slD.look i d q; ⟨v, a, keep b⟩, slD.len⟩
    have sl2 := SL.set (i := j) slp (keep hy)
    have ew : (L2.wipe σ [j]).set j (some y) = σ.set j (some y) := by show (σ.set j none).set j (some y) = _; rw [List.set_set]
    rw [ew]
    refine hel d (List.mem_of_getElem? hd) s0 H00 C cl fp (And1 S D) _ H' _ sl2 fun z H4 s4 g4 => ?_
    have h4 := s4 _ _ k2
    refine ⟨ys, h4, by rw [k3]; exact Nat.lt_of_lt_of_le (show i < 1001 by have := (List.getElem?_eq_some_iff.mp hd).1; omega) (by decide), ys ++ [z], fun b o n e => ?_, upd_same, by rw [List.length_append, k3]; rfl, ?_⟩
    · rw [upd_ne n]; exact s4 _ _ (k1 b o n e)
    · have lt : i < ds.length := (List.getElem?_eq_some_iff.mp hd).1
      have e : ds[i] = d := by rw [List.getElem?_eq_getElem lt] at hd; exact Option.some.inj hd
      rw [List.take_succ_eq_append_getElem lt, List.map_append, e]
      exact ((k4.same s4).append (.cons g4 .nil)).put h4
  · rintro H' ⟨ys, k1, k2, k3, k4⟩
    rw [lx, List.take_length] at k4
    refine q D H' (s1.trans fun b o e => k1 b o (ne_of_none e nD) (same_new nD b o e)) (.lst k2 (fun z => sl1.dom D z nD) k4.un1)
/-- y = [elt for x in iter] as a statement -/
theorem sd_lcT (i j : Nat) (f : PyData → PyData) (hN : X.N.Nodup) (okb : BlkOk X.N X.env.scope scope [(x, j)]) (h : ED X ρ iter (.tuple ds)) (l : ds.length ≤ 1000) (hel : ∀ d ∈ ds, BD X scope (ρ.set j (some d)) elt (f d))
    (hg : ∀ (s : Shared) (H : Hp) (C : Addr) (cl : List (Str × Addr)) (fp : List Addr), PG (X.blk s H scope (compEnvC scope cl C X.env) fp) (.Name x pt) (gName j))
    (hsw : swapsWith (.ListComp elt [⟨.Name x pt, iter, [], 0⟩] scope pos) (some (.Name y py)) spos.line X.env = pure true) (hy : X.N[i]? = some y := by rfl) (hyl : X.env.scope.names.lookup y = some .local := by rfl)
    (hc : X.calm = true := by rfl) (hs : ∀ z, foldedSetIterable iter X.env z = pure z := by intro _; rfl) : SD X ρ (.Assign [.Name y py] (.ListComp elt [⟨.Name x pt, iter, [], 0⟩] scope pos) spos) (.nx (ρ.set i (some (.list (ds.map f))))) := fun S σ H D sl q =>
  toS (ps_setLc (own := [(x, j)]) (te := WB X scope elt) hc hN hy hyl hsw (pi_tup pE) okb hg (fun _ _ _ _ _ => pts_nil) (fun s H0 C cl fp => ⟨fun pins s' σ' H' Q' I q => (q s H0 C cl fp).go pins s' I⟩) hs)
    (WE.mono (lcT_core j f h l hel sl (Kq := fun Dn H' => D.nx (σ.set i (some (.ref Dn))) H') fun Dn H' s g => q _ H' s ((sl.same s).set g)) fun v H1 ⟨a, xs, e, hS, k⟩ => ⟨a, e, ⟨xs, hS⟩, fun Dn nD => by
      obtain ⟨Pv, p0, pl, ps, pd⟩ := k Dn nD
      exact lc_tup (g := gName j) (tt := tYes) (te := WB X scope elt) (vs := [j]) (σ := σ) Pv p0 pl (fun i y H hi p => ⟨set_wipe σ j y, ps i y H hi p⟩) pd⟩)
end
end My

namespace HT
open PySem PySem.Spec PyProof.Rows
section
variable {prog : Program} {w : World} {A : Around} {E : Value → Shared → Prop} {s : Shared}
theorem sliceApplied_rev {sl : Addr} {vl vu vs : Value} {n : Nat} {Q : Int × Int × Nat → Shared → Prop} (hs : s.heap.IsSliceOf sl vl vu vs) (pl : IsPart vl none) (pu : IsPart vu none) (ps : IsPart vs (some (-1)))
    (h : Q ((n : Int) - 1, -1, n) s) : wpAny (model prog w) A (Builtin.Slice.sliceApplied (.ref sl) (pure (n : Int))) Q E s := by
  obtain ⟨os, hos, hcs, hds⟩ := id hs
  unfold Builtin.Slice.sliceApplied Builtin.Slice.sliceFields
  refine wpAny_bind (wpAny_bind (wpAny_field hos hds (x := vl) rfl (wpAny_bind (wpAny_field hos hds (x := vu) rfl (wpAny_bind (wpAny_field hos hds (x := vs) rfl (wpAny_pure ?_)))))))
  refine wpAny_bind (slicePart_ ps ?_)
  show wpAny _ _ (if ((-1 : Int) == 0) = true then _ else _) _ _ s
  rw [if_neg (by decide)]
  refine wpAny_bind (slicePart_ pl (wpAny_bind (slicePart_ pu (wpAny_bind (wpAny_pure ?_)))))
  show wpAny _ _ (match Builtin.Slice.sliceAdjust none none (-1) (n : Int) with | (lo, hi) => pure (lo, (-1 : Int), Builtin.Slice.slicePlaces lo hi (-1))) _ _ s
  have e1 : Builtin.Slice.sliceAdjust none none (-1) (n : Int) = ((n : Int) - 1, -1) := rfl
  rw [e1]
  show wpAny _ _ (pure (((n : Int) - 1), (-1 : Int), Builtin.Slice.slicePlaces ((n : Int) - 1) (-1) (-1))) _ _ s
  have e2 : Builtin.Slice.slicePlaces ((n : Int) - 1) (-1) (-1) = n := by
    unfold Builtin.Slice.slicePlaces
    rw [if_neg (by decide)]
    by_cases h : (n : Int) - 1 > -1
    · rw [if_pos h, show (- -1 : Int) = 1 by decide, Int.ediv_one]; omega
    · rw [if_neg h]; omega
  rw [e2]
  exact wpAny_pure h
theorem pick_rev (xs : Array Value) : ((List.range xs.size).filterMap fun (k : Nat) => xs[(((xs.size : Int) - 1) + (k : Int) * (-1)).toNat]?).toArray = xs.toList.reverse.toArray := by
  have h := PySem.W.krv_pick xs
  unfold slicePick at h
  rw [PySem.W.krv_bounds] at h
  rw [← h]
  show _ = ((sliceRange ((xs.size : Int) - 1) (-1) (-1)).filterMap (xs[·]?)).toArray
  rw [PySem.W.krv_sliceRange, List.filterMap_map]
  congr 2
  funext k
  show xs[(((xs.size : Int) - 1) + (k : Int) * (-1)).toNat]? = xs[xs.size - 1 - k]?
  congr 1
  omega
theorem getItem_tuple_rev {t sl : Addr} {items : Array Value} {vl vu vs : Value} {Q : Value → Shared → Prop} (ht : IsTup s.heap t items) (hs : s.heap.IsSliceOf sl vl vu vs) (pl : IsPart vl none) (pu : IsPart vu none) (ps : IsPart vs (some (-1)))
    (h : Q (.ref s.heap.objs.size) { s with heap := s.heap.push { cls := .type "tuple", data := .seq items.toList.reverse.toArray } })
    (hsz : items.size ≤ sizeLine) : wpAny (model prog w) A (getItem (.ref t) (.ref sl)) Q E s := by
  have htake : sizeOk (.seq items.toList.reverse.toArray) := by
    show items.toList.reverse.toArray.size ≤ sizeLine
    rw [List.size_toArray, List.length_reverse, Array.length_toList]
    omega
  obtain ⟨os, hos, hcs, hds⟩ := id hs
  have hTs : s.TypeIs (.ref sl) "slice" := ⟨os, hos, hcs⟩
  unfold getItem
  try with_reducible refine wpAny_holding ?_
  first | refine wpAny_bind (wpAny_pure ?_) | skip
  refine wpAny_bind (wpAny_sequenceKey ht.typeIs (by decide) ?_)
  refine wpAny_bind (wpAny_callSpecial?_slot (name := Str.ofString "__getitem__") ht.typeIs PyProof.Rows.slot_tuple_getitem
    (wpAny_call_entry PyProof.Rows.slot_tuple_getitem ht.typeIs entry_tuple_getitem ?_ (args_tuple_getitem _ _)))
  show wpAny _ _ (Builtin.Tuple.tupleItemsOf (.ref t) >>= _) _ _ s
  refine wpAny_bind (tupleItemsOf_ ht ?_)
  refine wpAny_bind (wpAny_typeOf hTs ?_)
  rw [if_pos (by decide)]
  refine wpAny_bind (sliceApplied_rev hs pl pu ps ?_)
  have hno : ¬ ((((items.size : Int) - 1) == 0 && (-1 : Int) == 1 && items.size == items.size) = true) := by
    intro q
    rw [Bool.and_eq_true, Bool.and_eq_true] at q
    exact absurd q.1.2 (by decide)
  show wpAny _ _ (if (((items.size : Int) - 1) == 0 && (-1 : Int) == 1 && items.size == items.size) = true then _ else _) _ _ s
  rw [if_neg hno, pick_rev]
  first
    | exact wpAny_bind (m := Builtin.Tuple.tupleExact _) (wpAny_newObj_type (wpAny_pure ⟨_, rfl, wpAny_pure h⟩) htake)
    | exact wpAny_bind (m := Builtin.Tuple.tupleExact _) (wpAny_newObj_type (wpAny_bind (wpAny_pure (wpAny_pure ⟨_, rfl, wpAny_pure h⟩))) htake)
    | exact wpAny_bind (wpAny_bind (m := Builtin.Tuple.tupleExact _) (wpAny_newObj_type (wpAny_pure (wpAny_pure ⟨_, rfl, wpAny_pure h⟩)) htake))
    | exact wpAny_bind (wpAny_bind (m := Builtin.Tuple.tupleExact _) (wpAny_newObj_type (wpAny_pure ⟨_, rfl, wpAny_pure h⟩) htake))
end
end HT
namespace My
open PySem PySem.Spec PyProof.Rows L2 HT
section
variable {X : Cx}
def tRevT (K : PySem.W.Frag) (te : TE) : TE := fun σ H Q => te σ H fun x H1 => ∃ a xs, x = .ref a ∧ SqT K H1 a xs ∧ ∀ p, H1 p = none → Q (.ref p) (upd H1 p (.tup xs.reverse))
theorem pe_revT {e : Expr} {te : TE} {k : Nat} {p1 p2 p3 pos : Pos} (he : PE X e te) : PE X (.Subscript e (.Slice none none (some (.UnaryOp .USub (.Constant (.int 1) k p1) p2)) p3) pos) (tRevT X.K te) := by
  refine ⟨fun pins s σ H Q I h => ?_⟩
  refine Subscript_ (thn (he.run pins s σ H _ I h) fun v s1 ⟨x, H1, I1, r1, q1⟩ => ?_)
  obtain ⟨a, xs, ex, hx, q⟩ := q1
  subst ex
  cases r1
  have hst : PO X (some (.UnaryOp .USub (.Constant (.int 1) k p1) p2)) (tPart (tUn (rU fun i => .int (-i)) (tC (.int 1)))) := po_some (pe_un un_neg pe_int)
  refine wpAny_Slice (thn (po_none.run pins s1 σ H1 (fun o H2 => o = none ∧ H2 = H1) I1 ⟨rfl, rfl⟩) fun vl s2 ⟨l, H2, I2, pl, el, e2⟩ => ?_)
  subst el e2
  refine thn (po_none.run pins s2 σ H2 (fun o H3 => o = none ∧ H3 = H2) I2 ⟨rfl, rfl⟩) fun vu s3 ⟨u, H3, I3, pu, eu, e3⟩ => ?_
  subst eu e3
  refine thn (hst.run pins s3 σ H3 (fun o H4 => o = some (-1) ∧ H4 = H3) I3 ⟨1, rfl, -1, rfl, rfl, rfl⟩) fun vs s4 ⟨o, H4, I4, ps, eo, e4⟩ => ?_
  subst eo e4
  have I5 : Inv X pins σ H4 { s4 with heap := s4.heap.push { cls := .type "slice", data := .fields #[vl, vu, vs] } } := I4.kept (t' := s4.toks) fun b ob q => Heap.get?_push_of_some _ q
  obtain ⟨its, r, ht, hz⟩ := I5.tuple hx
  have hlen := r.length
  show wpAny (model X.prog X.w) X.A (subscriptTail e (.Slice none none (some (.UnaryOp .USub (.Constant (.int 1) k p1) p2)) p3) (.ref a) (.ref s4.heap.objs.size)) (EP X pins σ Q) X.xe { s4 with heap := s4.heap.push { cls := .type "slice", data := .fields #[vl, vu, vs] } }
  refine tail_any (ops := [.ref a, .ref s4.heap.objs.size]) ht.typeIs (PyProof.Rows.slot_tuple_getitem.lookup) ?_ (by with_unfolding_all rfl)
  refine getItem_tuple_rev ht (Heap.IsSliceOf.new _ vl vu vs) pl pu ps ?_ (by rw [List.size_toArray]; omega)
  refine ⟨.ref _, _, I5.laid (t' := s4.toks) (o := .tup xs.reverse) (fun b ob q => Heap.get?_push_of_some _ q) (Nat.le_refl _) ?_, rfl, q _ (I5.hok.fresh (Nat.le_refl _))⟩
  exact ⟨by rw [List.length_reverse]; exact hz, _, r.reverse, IsTup.new _ _⟩
end
section
variable {X : Cx} {ρ : Rho} {a b c e lo hi : Expr} {d d1 d2 : PyData} {ds ds2 : List PyData} {pos p p1 p2 p3 : Pos}
theorem DGs.rev {S : Addr → Prop} {H : Hp} : ∀ {vs : List V} {ds : List PyData}, DGs S H vs ds → DGs S H vs.reverse ds.reverse
  | _, _, .nil => .nil
  | _, _, .cons h hs => by rw [List.reverse_cons, List.reverse_cons]; exact hs.rev.append (.cons h .nil)
/-- t[::-1] -/
theorem d_revT {k : Nat} (h : ED X ρ e (.tuple ds)) : ED X ρ (.Subscript e (.Slice none none (some (.UnaryOp .USub (.Constant (.int 1) k p1) p2)) p3) pos) (.tuple ds.reverse) := fun S σ H Q sl q =>
  toE (pe_revT pE) (h S σ H _ sl fun v H1 s1 g1 => by
    obtain ⟨a, xs, rfl, ha, hs, sq⟩ := g1.seq (K := X.K)
    exact ⟨a, xs, rfl, sq, fun p hp => q _ _ (s1.trans (same_new hp)) (.tup upd_same (hs.rev.same (same_new hp)))⟩)
/-- t + u -/
theorem d_catT (h : ED X ρ a (.tuple ds)) (h2 : ED X ρ b (.tuple ds2)) (l : ds.length + ds2.length ≤ 10000000) : ED X ρ (.BinOp a .Add b pos) (.tuple (ds ++ ds2)) := fun S σ H Q sl q =>
  e_op op_catA (h S σ H _ sl fun v H1 s1 g1 => h2 S σ H1 _ (sl.same s1) fun u H2 s2 g2 => by
    obtain ⟨a, xs, rfl, ha, hs, sq⟩ := (g1.same s2).seq (K := X.K)
    obtain ⟨b, ys, rfl, hb, ks, tq⟩ := g2.seq (K := X.K)
    have l1 := hs.length
    have l2 := ks.length
    refine ⟨a, b, xs, ys, rfl, rfl, sq, tq, Nat.le_trans (show xs.length + ys.length ≤ 10000000 by omega) (by decide), fun e => ?_, fun _ e => ?_, fun _ _ p hp => ?_⟩
    · subst e
      cases hs
      exact q _ _ (s1.trans s2) (.tup hb ks)
    · subst e
      cases ks
      rw [List.append_nil] at q
      exact q _ _ (s1.trans s2) (.tup ha hs)
    · exact q _ _ ((s1.trans s2).trans (same_new hp)) (.tup upd_same ((hs.append ks).same (same_new hp))))
end
end My

namespace L2
open PySem PySem.Spec PyProof.Rows
theorem tuple_mulW1 (l : Addr) (items : Array Value) (n : Nat) (dd : Option Addr) (sl : Array (Option Value)) (u : Tok) :
    Meets (Builtin.«tuple.__mul__» ⟨[.ref l, .int 1 u], []⟩) (fun _ R s => s.heap.get? l = some { cls := .type "tuple", dict := dd, data := .seq items n, slots := sl } ∧ R (.ok (.ret (Value.ref l))) s) :=
  .of_wp fun prog w A R s h => by
    obtain ⟨hp, g, d, tk, os⟩ := s
    obtain ⟨hl, h⟩ := h
    have f1 := AutoSeq1.idx_int
    wp_walk using wpAny_loadPart' hl
    repeat (first
      | (refine wpAny_ite_false (decide_eq_false (by decide)) ?_; wp_walk using wpAny_loadPart' hl)
      | (refine wpAny_ite_true (decide_eq_true (by simp)) ?_; wp_walk using wpAny_loadPart' hl))
    exact ⟨_, rfl, h⟩
theorem tuple_mulW0 (l : Addr) (items : Array Value) (n : Nat) (dd : Option Addr) (sl : Array (Option Value)) (u : Tok) (c1 : (items.isEmpty || (0 : Int) == 1) = false) :
    Meets (Builtin.«tuple.__mul__» ⟨[.ref l, .int 0 u], []⟩) (fun _ R s => s.heap.get? l = some { cls := .type "tuple", dict := dd, data := .seq items n, slots := sl } ∧
      R (.ok (.ret (Value.ref s.heap.objs.size))) { s with heap := s.heap.push { cls := Value.type "tuple", data := Data.seq #[] }, toks := s.toks }) :=
  .of_wp fun prog w A R s h => by
    obtain ⟨hp, g, d, tk, os⟩ := s
    obtain ⟨hl, h⟩ := h
    have f1 := AutoSeq1.idx_int
    wp_walk using wpAny_loadPart' hl
    repeat (first
      | (refine wpAny_ite_false (decide_eq_false (by rw [c1]; exact Bool.false_ne_true)) ?_; wp_walk using wpAny_loadPart' hl)
      | (refine wpAny_ite_false (decide_eq_false (by decide)) ?_; wp_walk using wpAny_loadPart' hl)
      | (refine wpAny_ite_true (decide_eq_true (by simp)) ?_; wp_walk using wpAny_loadPart' hl)
      | (refine wpAny_ite_false (decide_eq_false (Nat.not_lt.mpr (Nat.zero_le _))) ?_; wp_walk using wpAny_loadPart' hl))
    exact ⟨_, rfl, h⟩
theorem rep_size {α : Type} (a : Array α) : ∀ (m : Nat) (b : Array α), ((List.replicate m a).foldl (fun x1 x2 => x1 ++ x2) b).size = b.size + m * a.size
  | 0, b => by simp
  | m + 1, b => by
    rw [List.replicate_succ, List.foldl_cons, rep_size a m (b ++ a), Array.size_append, Nat.succ_mul]
    omega
section
variable {X : Cx}
/-- t * 1 is t itself; t * 0 is () -/
theorem op_rep01 : OpR X (binaryOp .Mult) (fun x y H Q => ∃ l k xs, x = .ref l ∧ y = .int k ∧ SqT X.K H l xs ∧ xs ≠ [] ∧ ((k = 1 ∧ Q (.ref l) H) ∨ (k = 0 ∧ ∀ p, H p = none → Q (.ref p) (upd H p (.tup []))))) := by
  intro pins s σ H x y v u Q I rx ry h
  obtain ⟨l, k, xs, rfl, rfl, hT, hne, q⟩ := h
  cases rx
  obtain ⟨t, rfl⟩ := ry
  obtain ⟨its, r, ⟨⟨cls, dd, data, sl⟩, ho, hc, n, hd⟩, hs⟩ := I.tuple hT
  simp only at hc hd
  subst hc hd
  rcases q with ⟨rfl, q⟩ | ⟨rfl, q⟩
  · exact wpAny_binaryOp_repeat_ref (T := "tuple") (U := "int") (by decide) ⟨_, ho, rfl⟩ (fun s' => typeIs_int s' 1 t) noFill_tuple_mul F.fills_int_mul F.slot_int_rmul repeat_tuple F.slot_int_index.lookup
      (call_meets F.slot_int_rmul (typeIs_int s 1 t) F.entry_int_rmul (F.args_int_rmul_2 _ _) (int_rmul_tuple 1 t l its.toArray n dd sl)
        ⟨ho, rfl, ⟨_, ho, rfl⟩, call_meets F.slot_tuple_mul ⟨_, ho, rfl⟩ F.entry_tuple_mul (F.args_tuple_mul_2 _ _) (tuple_mulW1 l its.toArray n dd sl t) ⟨ho, ⟨.ref l, H, I, rfl, q⟩⟩⟩)
  · have hn : its ≠ [] := fun e => hne (by
      have hle : its.length = xs.length := r.length.symm
      rw [e] at hle
      exact List.eq_nil_of_length_eq_zero hle.symm)
    have hi : its.toArray.isEmpty = false := by
      cases its with
      | nil => exact absurd rfl hn
      | cons a b => rfl
    refine wpAny_binaryOp_repeat_ref (T := "tuple") (U := "int") (by decide) ⟨_, ho, rfl⟩ (fun s' => typeIs_int s' 0 t) noFill_tuple_mul F.fills_int_mul F.slot_int_rmul repeat_tuple F.slot_int_index.lookup
      (call_meets F.slot_int_rmul (typeIs_int s 0 t) F.entry_int_rmul (F.args_int_rmul_2 _ _) (int_rmul_tuple 0 t l its.toArray n dd sl)
        ⟨ho, rfl, ⟨_, ho, rfl⟩, call_meets F.slot_tuple_mul ⟨_, ho, rfl⟩ F.entry_tuple_mul (F.args_tuple_mul_2 _ _) (tuple_mulW0 l its.toArray n dd sl t (by rw [hi]; rfl)) ⟨ho, ?_⟩⟩)
    refine ⟨.ref s.heap.objs.size, _, I.laid (t' := s.toks) (o := .tup []) (fun b ob q => Heap.get?_push_of_some _ q) (Nat.le_refl _) ?_, rfl, q _ (I.hok.fresh (Nat.le_refl _))⟩
    exact ⟨Nat.zero_le _, [], .nil, IsTup.new _ _⟩
/-- text * int -/
theorem op_mulS : OpR X (binaryOp .Mult) (fun x y H Q => ∃ z k, x = .str z ∧ y = .int k ∧ 2 ≤ k ∧ k ≤ 1000 ∧ 1 ≤ z.length ∧ z.length ≤ 1000 ∧ Q (.str ⟨(List.replicate k.toNat z.cps).foldl (· ++ ·) #[]⟩) H) := by
  intro pins s σ H x y v u Q I rx ry h
  obtain ⟨z, k, rfl, rfl, h1, h2, h3, h4, q⟩ := h
  obtain ⟨t, rfl⟩ := rx
  obtain ⟨t', rfl⟩ := ry
  have hno : (k == 1 || z.length == 0) = false := by
    rw [beq_eq_false_iff_ne.mpr (show k ≠ 1 by omega), beq_eq_false_iff_ne.mpr (show z.length ≠ 0 by omega)]; rfl
  refine P.mul_str ?_ (fun _ _ => ?_) (fun _ _ => ?_) ?_
  · rw [decide_eq_false (by omega), decide_eq_false (by omega)]; rfl
  · have : (1000 : Int) ≤ (2 ^ 63 - 1) / k := by
      refine Int.le_ediv_of_mul_le (by omega) ?_
      omega
    omega
  · refine decide_eq_false ?_
    rw [sizeLine_eq]
    have : z.length * k.toNat ≤ 1000 * 1000 := Nat.mul_le_mul h4 (by omega)
    omega
  · rw [if_neg (by omega), hno, if_neg (by decide)]
    refine ⟨?_, ⟨.str _, H, I.tok _, ⟨_, rfl⟩, q⟩⟩
    show ((List.replicate k.toNat z.cps).foldl (fun x1 x2 => x1 ++ x2) #[]).size ≤ sizeLine
    rw [rep_size, sizeLine_eq]
    have : k.toNat * z.cps.size ≤ 1000 * 1000 := Nat.mul_le_mul (by omega) h4
    show #[].size + _ ≤ _
    simp only [List.size_toArray, List.length_nil]
    omega
end
end L2
namespace My
open PySem PySem.Spec PyProof.Rows L2
def repS (z : Str) (k : Nat) : Str := ⟨(List.replicate k z.cps).foldl (· ++ ·) #[]⟩
theorem DGs.flat {S : Addr → Prop} {H : Hp} {xs : List V} {ds : List PyData} (h : DGs S H xs ds) : ∀ k, DGs S H (List.replicate k xs).flatten (List.replicate k ds).flatten
  | 0 => .nil
  | k + 1 => by rw [List.replicate_succ, List.replicate_succ, List.flatten_cons, List.flatten_cons]; exact h.append (h.flat k)
section
variable {X : Cx} {ρ : Rho} {a b e : Expr} {ds : List PyData} {pos : Pos} {k : Nat}
/-- t * k -/
theorem d_mulT (h : ED X ρ a (.tuple ds)) (hb : ED X ρ b (.int (k : Int))) (h0 : 0 < ds.length) (h1 : ds.length ≤ 1000) (h2 : k ≤ 1000) : ED X ρ (.BinOp a .Mult b pos) (.tuple (List.replicate k ds).flatten) := fun S σ H Q sl q => by
  by_cases hk : 2 ≤ k
  · refine e_op op_repT (h S σ H _ sl fun v H1 s1 g1 => hb S σ H1 _ (sl.same s1) fun u H2 s2 g2 => ?_)
    cases g2
    obtain ⟨a, xs, rfl, ha, hs, sq⟩ := (g1.same s2).seq (K := X.K)
    have lx := hs.length
    exact ⟨a, _, xs, rfl, rfl, sq, fun e => by rw [e] at lx; simp at lx; omega, by omega, by omega, by omega, fun p hp => q _ _ ((s1.trans s2).trans (same_new hp)) (.tup upd_same ((hs.flat k).same (same_new hp)))⟩
  · refine e_op op_rep01 (h S σ H _ sl fun v H1 s1 g1 => hb S σ H1 _ (sl.same s1) fun u H2 s2 g2 => ?_)
    cases g2
    obtain ⟨a, xs, rfl, ha, hs, sq⟩ := (g1.same s2).seq (K := X.K)
    have lx := hs.length
    refine ⟨a, _, xs, rfl, rfl, sq, fun e => by rw [e] at lx; simp at lx; omega, ?_⟩
    by_cases k1 : k = 1
    · subst k1
      refine .inl ⟨rfl, q _ _ (s1.trans s2) ?_⟩
      show DG S H2 (.ref a) (.tuple (ds ++ []))
      rw [List.append_nil]
      exact .tup ha hs
    · have k0 : k = 0 := by omega
      subst k0
      exact .inr ⟨rfl, fun p hp => q _ _ ((s1.trans s2).trans (same_new hp)) (.tup upd_same .nil)⟩
/-- text * k -/
theorem d_mulS {z : Str} (h : ED X ρ a (.str z)) (hb : ED X ρ b (.int (k : Int))) (h0 : 1 ≤ z.length) (h1 : z.length ≤ 1000) (h2 : 2 ≤ k) (h3 : k ≤ 1000) : ED X ρ (.BinOp a .Mult b pos) (.str (repS z k)) := fun S σ H Q sl q =>
  e_op op_mulS (h S σ H _ sl fun v H1 s1 g1 => hb S σ H1 _ (sl.same s1) fun u H2 s2 g2 => by
    cases g1; cases g2
    exact ⟨z, _, rfl, rfl, by omega, by omega, h0, h1, q _ _ (s1.trans s2) (.str _)⟩)
/-- text[i] -/
theorem d_ixS {z : Str} {i c : Nat} (h : ED X ρ a (.str z)) (hb : ED X ρ b (.int (i : Int))) (hz : z.length ≤ 1000) (hi : z.cps.toList[i]? = some c) (hs : PlainIx b := by exact fun _ _ => rfl) : ED X ρ (.Subscript a b pos) (.str ⟨#[c]⟩) := fun S σ H Q sl q =>
  e_ixS (h S σ H _ sl fun v H1 s1 g1 => hb S σ H1 _ (sl.same s1) fun u H2 s2 g2 => by
    cases g1; cases g2
    exact ⟨z, _, c, rfl, rfl, Nat.le_trans hz (by decide), atI_nat hi, q _ _ (s1.trans s2) (.str _)⟩) hs
end
end My

namespace My
open PySem PySem.Spec PyProof.Rows L2
/-! ### a block that gathers data in one list -/
abbrev SpF (p : Addr) : Addr → Prop := fun a => a = p
structure Ap (F : Addr) (ok : PyData → Prop) (ρ : Rho) (n : Nat) (σ : L2.St) (H : Hp) : Prop where
  sl : SL (SpF F) H σ ρ
  at0 : σ[0]? = some (some (.ref F))
  lst : ∃ xs ds, H F = some (.lst xs) ∧ DGs (SpF F) H xs ds ∧ ds.length ≤ n ∧ ∀ d ∈ ds, ok d
def SE (X : Cx) (F : Addr) (ok : PyData → Prop) (st : Stmt) (ρ : Rho) (n : Nat) (ρ' : Rho) (n' : Nat) : Prop := ∀ (σ : L2.St) (H : Hp) (D : Ends), Ap F ok ρ n σ H → (∀ σ' H', But F H H' → Ap F ok ρ' n' σ' H' → D.nx σ' H') → WS X st D σ H
def LE (X : Cx) (F : Addr) (ok : PyData → Prop) (l : List Stmt) (ρ : Rho) (n : Nat) (ρ' : Rho) (n' : Nat) : Prop := ∀ (σ : L2.St) (H : Hp) (D : Ends), Ap F ok ρ n σ H → (∀ σ' H', But F H H' → Ap F ok ρ' n' σ' H' → D.nx σ' H') → WL X l D σ H
theorem SL.keep {S : Addr → Prop} {H H' : Hp} {σ : L2.St} {ρ : Rho} (h : SL S H σ ρ) (ht : Tup H H') (k : ∀ a o, ¬ S a → H a = some o → H' a = some o) (hd : ∀ a, S a → H' a ≠ none) : SL S H' σ ρ :=
  ⟨hd, fun i d q => let ⟨v, a, b⟩ := h.look i d q; ⟨v, a, b.mono ht fun a o n e => ⟨n, k a o n e⟩⟩, h.len⟩
section
variable {X : Cx} {F : Addr} {ok : PyData → Prop} {ρ ρ1 ρ2 : Rho} {n n1 n2 : Nat} {e : Expr} {d : PyData} {st : Stmt} {l : List Stmt} {ds : List PyData} {pos pos' apos p pt : Pos} {x : Str}
theorem le_nil : LE X F ok [] ρ n ρ n := fun σ H D I q => l_nil (q σ H (fun _ _ _ e => e) I)
theorem le_cons (h : SE X F ok st ρ n ρ1 n1) (hs : LE X F ok l ρ1 n1 ρ2 n2) : LE X F ok (st :: l) ρ n ρ2 n2 := fun σ H D I q =>
  l_cons (h σ H _ I fun σ1 H1 b1 I1 => hs σ1 H1 _ I1 fun σ2 H2 b2 I2 => q σ2 H2 (b1.trans b2) I2)
theorem se_set (i : Nat) (h : ED X ρ e d) (hN : X.N.Nodup) (h0 : i ≠ 0) (hi : X.N[i]? = some x := by rfl) (hx : Loc X.env.scope x := by first | exact Or.inl rfl | exact Or.inr rfl)
    (hs : swapsWith e (some (.Name x pos')) pos.line X.env = pure false := by rfl) (hf : X.fn x = true ∨ X.env.scope.names.lookup x = some .local := by first | exact .inl rfl | exact .inr rfl | assumption) :
    SE X F ok (.Assign [.Name x pos'] e pos) ρ n (ρ.set i (some d)) n := fun σ H D I q =>
  s_set i (h _ σ H _ I.sl fun v H1 s1 g1 => by
    obtain ⟨xs, ds, a, b, c, k⟩ := I.lst
    exact q _ H1 (But.of s1) ⟨(I.sl.same s1).set g1, by rw [List.getElem?_set_ne h0]; exact I.at0, xs, ds, s1 _ _ a, b.same s1, c, k⟩) hN hi hx hs hf
theorem se_app (h : ED X ρ e d) (hd : ok d) (hn : n ≤ 1000) (hi : X.N[0]? = some x := by rfl) (hv : Vis X.env.scope x := by first | exact Or.inl rfl | exact Or.inr (Or.inl rfl) | exact Or.inr (Or.inr rfl))
    (hbase : attributeBase (.Name x p) "append" X.env (eval (.Name x p) X.env) = eval (.Name x p) X.env := by rfl)
    (hfew : ((backTo pos (starEach [e] X.env)).all (fun x => !x.1) && (backToKw pos (keywordEach [] X.env)).all (fun x => x.1.isSome) && decide ([e].length + ([] : List Keyword).length + (if ([] : List Keyword).isEmpty then 0 else 1) < 30)) = true := by rfl)
    (hline : (apos.endLine == pos.line) = true := by rfl) (hs : starEach [e] X.env = (false, eval e X.env) :: starEach [] X.env := by rfl) (hplain : (backTo pos (starEach [] X.env)).any (·.1) = false := by rfl)
    (hsw : swapsWith (.Call (.Attribute (.Name x p) "append" apos) [e] [] pos) none pos'.line X.env = pure false := by rfl)
    (hd1 : (x == ("__debug__" : Str)) = false := by decide) (hcd : (x == ("__classdict__" : Str)) = false := by decide) :
    SE X F ok (.Expr (.Call (.Attribute (.Name x p) "append" apos) [e] [] pos) pos') ρ n ρ (n + 1) := fun σ H D I q => by
  obtain ⟨xs, ds, a, b, c, k⟩ := I.lst
  have lx := b.length
  refine s_app (e_var 0 I.at0 ⟨⟨F, xs, rfl, .inl (.inl a)⟩, h _ σ H _ I.sl fun v H1 s1 g1 => ⟨F, xs, rfl, s1 _ _ a, Nat.lt_of_lt_of_le (show xs.length < 10000 by omega) (by decide), ?_⟩⟩ hi hv hd1 hcd) hbase hfew hline hs hplain hsw
  have a1 := s1 _ _ a
  have up : ∀ {v : V} {d : PyData}, DG (SpF F) H1 v d → DG (SpF F) (upd H1 F (.lst (xs ++ [v]))) v d := fun g => g.mono (Tup.set a1) fun b o nb e => ⟨nb, by rw [upd_ne nb]; exact e⟩
  refine q σ _ (fun b o nb e => by rw [upd_ne nb]; exact s1 _ _ e) ⟨(I.sl.same s1).keep (Tup.set a1) (fun b o nb e => by rw [upd_ne nb]; exact e) (fun b e => by rw [show b = F from e, upd_same]; exact fun z => by cases z), I.at0, xs ++ [v], ds ++ [d], upd_same, ?_, ?_, ?_⟩
  · exact ((b.same s1).append (.cons g1 .nil)).mono (Tup.set a1) fun b o nb e => ⟨nb, by rw [upd_ne nb]; exact e⟩
  · rw [List.length_append]; exact Nat.succ_le_succ c
  · intro y hy
    rcases List.mem_append.mp hy with hy | hy
    · exact k y hy
    · rw [List.mem_singleton.mp hy]; exact hd
inductive ForE (X : Cx) (F : Addr) (ok : PyData → Prop) (j : Nat) (body : List Stmt) : List PyData → Rho → Nat → Rho → Nat → Prop
  | done {ρ : Rho} {n : Nat} : ForE X F ok j body [] ρ n ρ n
  | next {ρ ρ1 ρ2 : Rho} {n n1 n2 : Nat} {d : PyData} {ds : List PyData} (h : LE X F ok body (ρ.set j (some d)) n ρ1 n1) (r : ForE X F ok j body ds ρ1 n1 ρ2 n2) : ForE X F ok j body (d :: ds) ρ n ρ2 n2
theorem se_for {iter : Expr} {body : List Stmt} (j : Nat) (h : ED X ρ iter (.tuple ds)) (hf : ForE X F ok j body ds ρ n ρ2 n2) (hj : j ≠ 0) (hg : PG X (.Name x pt) (gName j)) (hp : PassesOwn (model X.prog X.w) X.A X.env X.xe) (hc : X.calm = true := by rfl)
    (hs : ∀ x, foldedSetIterable iter X.env x = pure x := by intro _; rfl) : SE X F ok (.For (.Name x pt) iter body [] pos) ρ n ρ2 n2 := fun σ H D I q => by
  refine s_for (pi_tup pE) hg (h _ σ H _ I.sl fun v H1 s1 g1 => ?_) hp hc hs
  obtain ⟨a, xs, rfl, ha, hds, sq⟩ := g1.seq (K := X.K)
  have I1 : Ap F ok ρ n σ H1 := by
    obtain ⟨ys, es, a, b, c, k⟩ := I.lst
    exact ⟨I.sl.same s1, I.at0, ys, es, s1 _ _ a, b.same s1, c, k⟩
  have tupF : ∀ {H' : Hp}, But F H1 H' → Tup H1 H' := fun b => by
    obtain ⟨ys, es, a, _⟩ := I1.lst
    exact b.tups a
  refine ⟨a, rfl, ⟨xs, sq⟩, for_tup (xs := xs) (fun i σ' H' => ∃ ρ' n', But F H1 H' ∧ Ap F ok ρ' n' σ' H' ∧ ForE X F ok j body (ds.drop i) ρ' n' ρ2 n2) ⟨ρ, n, fun _ _ _ e => e, I1, hf⟩ (fun i σ' H' _ ⟨_, _, b2, _⟩ => .inl (.inl (tupF b2 _ _ ha))) ?_ ?_⟩
  · rintro i y σ' H' hi ⟨ρ', n', b2, I2, fd⟩
    obtain ⟨d, hd, hy⟩ := hds.get hi
    have lt : i < ds.length := (List.getElem?_eq_some_iff.mp hd).1
    have e : ds.drop i = d :: ds.drop (i + 1) := by
      rw [List.drop_eq_getElem_cons lt]
      rw [List.getElem?_eq_getElem lt] at hd
      rw [Option.some.inj hd]
    rw [e] at fd
    have hy2 := hy.mono (T := SpF F) (tupF b2) fun a o nb e => ⟨nb, b2 a o nb e⟩
    have I3 : Ap F ok (ρ'.set j (some d)) n' (σ'.set j (some y)) H' := ⟨I2.sl.set hy2, by rw [List.getElem?_set_ne hj]; exact I2.at0, I2.lst⟩
    cases fd with
    | next hb r => exact hb _ H' _ I3 fun σ4 H4 b4 I4 => ⟨_, _, b2.trans b4, I4, r⟩
  · rintro σ' H' ⟨ρ', n', b2, I2, fd⟩
    rw [hds.length, List.drop_length] at fd
    cases fd
    exact q σ' H' ((But.of s1).trans b2) I2
end
end My

namespace My
open PySem PySem.Spec PyProof.Rows L2
section
variable {X : Cx} {o : Expr} {σ : L2.St} {H : Hp} {Q : VK} {pos apos : Pos}
/-- o.isascii(), o.isalpha(), o.islower() of a text -/
theorem e_isascii (h : WE X o σ H fun x H1 => ∃ z, x = .str z ∧ Q (.bl (Txt.isascii z)) H1)
    (hbase : attributeBase o "isascii" X.env (eval o X.env) = eval o X.env := by rfl) (hline : (apos.endLine == pos.line) = true := by rfl) : WE X (.Call (.Attribute o "isascii" apos) [] [] pos) σ H Q :=
  toE (pe_bm0 PySem.F.plainAttrs_str PySem.F.slot_str_isascii PySem.F.type_str_isascii mt_isascii pE hbase hline) (WE.mono h fun x H1 ⟨z, e, q⟩ => by
    subst e
    exact ⟨rfl, z, rfl, rfl, trivial, q⟩)
theorem e_isalpha (h : WE X o σ H fun x H1 => ∃ z, x = .str z ∧ Q (.bl (Txt.isalpha z)) H1)
    (hbase : attributeBase o "isalpha" X.env (eval o X.env) = eval o X.env := by rfl) (hline : (apos.endLine == pos.line) = true := by rfl) : WE X (.Call (.Attribute o "isalpha" apos) [] [] pos) σ H Q :=
  toE (pe_bm0 PySem.F.plainAttrs_str PySem.F.slot_str_isalpha PySem.F.type_str_isalpha mt_isalpha pE hbase hline) (WE.mono h fun x H1 ⟨z, e, q⟩ => by
    subst e
    exact ⟨rfl, z, rfl, rfl, trivial, q⟩)
theorem e_islower (h : WE X o σ H fun x H1 => ∃ z, x = .str z ∧ Q (.bl (Txt.islower z)) H1)
    (hbase : attributeBase o "islower" X.env (eval o X.env) = eval o X.env := by rfl) (hline : (apos.endLine == pos.line) = true := by rfl) : WE X (.Call (.Attribute o "islower" apos) [] [] pos) σ H Q :=
  toE (pe_bm0 PySem.F.plainAttrs_str PySem.F.slot_str_islower PySem.F.type_str_islower mt_islower pE hbase hline) (WE.mono h fun x H1 ⟨z, e, q⟩ => by
    subst e
    exact ⟨rfl, z, rfl, rfl, trivial, q⟩)
end
def lowC (c : Nat) : Bool := decide (c ∈ ("abcdefghijklmnopqrstuvwxyz" : Str).cps.toList)
theorem lowC_1 : ∀ c < 128, (Unicode.isAlpha c && !(Unicode.isUpper c || Unicode.isTitle c)) = lowC c := by decide +kernel
theorem lowC_2 : ∀ c < 128, lowC c = true → Unicode.isLower c = true := by decide +kernel
theorem lowC_3 (c : Nat) (h : lowC c = true) : c < 128 := by
  have h' : c ∈ ("abcdefghijklmnopqrstuvwxyz" : Str).cps.toList := of_decide_eq_true h
  have : ∀ x ∈ ("abcdefghijklmnopqrstuvwxyz" : Str).cps.toList, x < 128 := by decide +kernel
  exact this c h'
/-- lowercase letters alone, and one at least -/
theorem low_eq (z : Str) : (Txt.isascii z && (Txt.isalpha z && Txt.islower z)) = (decide (1 ≤ z.length) && z.cps.toList.all lowC) := by
  have e1 : Txt.isascii z = z.cps.toList.all fun c => decide (c < 128) := by rw [Array.all_toList]; rfl
  have e2 : Txt.isalpha z = (decide (1 ≤ z.length) && z.cps.toList.all Unicode.isAlpha) := by rw [Array.all_toList]; rfl
  have e3 : Txt.islower z = (z.cps.toList.any Unicode.isLower && !z.cps.toList.any fun c => Unicode.isUpper c || Unicode.isTitle c) := by rw [Array.any_toList, Array.any_toList]; rfl
  have el : z.length = z.cps.toList.length := rfl
  rw [e1, e2, e3, el]
  generalize z.cps.toList = l
  apply Bool.eq_iff_iff.mpr
  simp only [Bool.and_eq_true, decide_eq_true_eq, List.all_eq_true, Bool.not_eq_true', List.any_eq_true]
  constructor
  · rintro ⟨h1, ⟨h2, h3⟩, _, h5⟩
    refine ⟨h2, fun c hc => ?_⟩
    rw [← lowC_1 c (h1 c hc), h3 c hc, Bool.true_and]
    have := List.any_eq_false.mp h5 c hc
    simpa using this
  · rintro ⟨h1, h2⟩
    have k : ∀ c ∈ l, (Unicode.isAlpha c && !(Unicode.isUpper c || Unicode.isTitle c)) = true := fun c hc => by rw [lowC_1 c (lowC_3 c (h2 c hc))]; exact h2 c hc
    refine ⟨fun c hc => lowC_3 c (h2 c hc), ⟨h1, fun c hc => ?_⟩, ?_, ?_⟩
    · have := k c hc; rw [Bool.and_eq_true] at this; exact this.1
    · cases l with
      | nil => simp at h1
      | cons c r => exact ⟨c, List.mem_cons_self .., lowC_2 c (lowC_3 c (h2 c (List.mem_cons_self ..))) (h2 c (List.mem_cons_self ..))⟩
    · apply List.any_eq_false.mpr
      intro c hc
      have := k c hc; rw [Bool.and_eq_true] at this; simpa using this.2
end My

namespace My
open PySem PySem.Spec PyProof.Rows L2
/-! ### reading, as functions of what is left -/
abbrev Cs := List Nat
abbrev cs (z : Str) : Cs := z.cps.toList
def mkS (l : Cs) : Str := ⟨l.toArray⟩
theorem mkS_cs (z : Str) : mkS (cs z) = z := by cases z; rfl
theorem cs_mkS (l : Cs) : cs (mkS l) = l := by show (l.toArray).toList = l; simp
theorem cs_cat (a b : Str) : cs (a ++ b) = cs a ++ cs b := by show (a.cps ++ b.cps).toList = _; simp
/-- what is left behind a sign -/
def tk (s : Str) (r : Cs) : Option Cs := if (cs s).isPrefixOf r then some (r.drop (cs s).length) else none
def wordOf (r : Cs) : Cs := (r.take 9).takeWhile lowC
def pName (r : Cs) : Option (PyData × Cs) := if namD (.str (mkS (wordOf r))) then some (.str (mkS (wordOf r)), r.drop (wordOf r).length) else none
def pVal (r : Cs) : Option (PyData × Cs) := (tk "'" r).bind fun r1 => if valD (.str (mkS (wordOf r1))) then (tk "'" (r1.drop (wordOf r1).length)).map fun r2 => (.str (mkS (wordOf r1)), r2) else none
def pDot (r : Cs) : Option ((PyData × PyData) × Cs) := (pName r).bind fun x => match tk "." x.2 with
  | some r2 => (pName r2).map fun y => ((x.1, y.1), y.2)
  | none => some ((.none, x.1), x.2)
def pMore (p : Cs → Option (PyData × Cs)) (sep : Str) : Nat → Cs → Option (List PyData × Cs)
  | n, r => match tk sep r with
    | none => some ([], r)
    | some r1 => match n with
      | 0 => none
      | n + 1 => (p r1).bind fun x => (pMore p sep n x.2).map fun y => (x.1 :: y.1, y.2)
def pList (p : Cs → Option (PyData × Cs)) (sep : Str) (most : Nat) (r : Cs) : Option (List PyData × Cs) := (p r).bind fun x => (pMore p sep (most - 1) x.2).map fun y => (x.1 :: y.1, y.2)
def pTerm : Nat → Cs → Option (PyData × Cs)
  | k, r => if (tk "'" r).isSome then pVal r else (pDot r).bind fun x => match tk "(" x.2 with
    | none => some (.tuple [x.1.1, x.1.2], x.2)
    | some r2 => match k with
      | 0 => none
      | k + 1 => (pTerm k r2).bind fun t1 => match tk ", " t1.2 with
        | some r4 => (pTerm k r4).bind fun t2 => (tk ")" t2.2).map fun r6 => (.tuple [.str "call", x.1.1, x.1.2, .tuple [t1.1, t2.1]], r6)
        | none => (tk ")" t1.2).map fun r6 => (.tuple [.str "call", x.1.1, x.1.2, .tuple [t1.1]], r6)
def pTold1 (r : Cs) : Option (PyData × Cs) := (pTerm 3 r).bind fun x => if colD x.1 then (match tk " as " x.2 with
    | some r2 => (pName r2).map fun y => (.tuple [.str "column", x.1, y.1], y.2)
    | none => some (.tuple [.str "column", x.1, at' x.1 1], x.2))
  else (tk " as " x.2).bind fun r2 => (pName r2).map fun y => (.tuple [.str "term", x.1, y.1], y.2)
def pTold (r : Cs) : Option (PyData × Cs) := if (tk "'" r).isSome then pTold1 r else (pName r).bind fun x => match tk ".*" x.2 with
  | some r2 => some (.tuple [.str "star", x.1], r2)
  | none => pTold1 r
def pSource (r : Cs) : Option (PyData × Cs) := (pDot r).bind fun x => if (tk " where " x.2).isSome then some (.tuple [x.1.1, x.1.2, x.1.2], x.2) else match tk " " x.2 with
  | none => some (.tuple [x.1.1, x.1.2, x.1.2], x.2)
  | some r2 => (pName r2).map fun y => (.tuple [x.1.1, x.1.2, y.1], y.2)
def pCond (r : Cs) : Option (PyData × Cs) := (pDot r).bind fun x => match tk " = " x.2 with
  | some r2 => (pDot r2).map fun y => (.tuple [.str "equal", .tuple [x.1.1, x.1.2], .tuple [y.1.1, y.1.2]], y.2)
  | none => (tk " in (" x.2).bind fun r2 => (pList pVal ", " 8 r2).bind fun y => (tk ")" y.2).map fun r4 => (.tuple [.str "in", .tuple [x.1.1, x.1.2], .tuple y.1], r4)
def pSel (r : Cs) : Bool × Cs := match tk "distinct " r with
  | some r2 => (true, r2)
  | none => (false, r)
def pTail (b : Bool) (ts : List PyData) (r : Cs) : Option (PyData × Cs) := (tk " from " r).bind fun r4 => (pList pSource ", " 4 r4).bind fun s => match tk " where " s.2 with
  | some r6 => (pList pCond " and " 8 r6).map fun c => (.tuple [.bool b, .tuple ts, .tuple s.1, .tuple c.1], c.2)
  | none => some (.tuple [.bool b, .tuple ts, .tuple s.1, .tuple []], s.2)
def pStmt (r : Cs) : Option (PyData × Cs) := (tk "select " r).bind fun r1 => (pList pTold ", " 8 (pSel r1).2).bind fun t => pTail (pSel r1).1 t.1 t.2
/-! ### what stands behind -/
/-- no letter stands next -/
def Stop (r : Cs) : Prop := ∀ c, r.head? = some c → lowC c = false
/-- nothing, or a blank, a comma, a closing one -/
def StopT (r : Cs) : Prop := ∀ c, r.head? = some c → c = 32 ∨ c = 44 ∨ c = 41
theorem StopT.stop {r : Cs} (h : StopT r) : Stop r := fun c e => by rcases h c e with rfl | rfl | rfl <;> decide +kernel
theorem tk_cat (s : Str) (r : Cs) : tk s (cs s ++ r) = some r := by
  unfold tk
  rw [if_pos (List.isPrefixOf_iff_prefix.mpr (List.prefix_append _ _)), List.drop_left]
theorem tk_none1 {s : Str} {c : Nat} {t : Cs} (e : cs s = c :: t) {r : Cs} (h : ∀ d, r.head? = some d → d ≠ c) : tk s r = none := by
  unfold tk
  rw [if_neg]
  intro z
  rw [e] at z
  cases r with
  | nil => exact Bool.noConfusion z
  | cons d r =>
    have : (c == d && t.isPrefixOf r) = true := z
    rw [Bool.and_eq_true] at this
    exact h d rfl (eq_of_beq this.1).symm
theorem tk_none2 {s : Str} {a b c d : Nat} {t u : Cs} (e : cs s = a :: b :: t) (h : b ≠ d) : tk s (c :: d :: u) = none := by
  unfold tk
  rw [if_neg]
  intro z
  rw [e] at z
  have : (a == c && (b == d && t.isPrefixOf u)) = true := z
  rw [Bool.and_eq_true, Bool.and_eq_true] at this
  exact h (eq_of_beq this.2.1)
theorem takeWhile_stop {l r : Cs} (hl : l.all lowC = true) (hr : Stop r) : (l ++ r).takeWhile lowC = l := by
  rw [List.takeWhile_append_of_pos fun a ha => List.all_eq_true.mp hl a ha]
  cases r with
  | nil => simp
  | cons c r => rw [List.takeWhile_cons_of_neg (by rw [hr c rfl]; exact Bool.false_ne_true), List.append_nil]
theorem wordOf_cat {l r : Cs} (hl : l.all lowC = true) (h8 : l.length ≤ 8) (hr : Stop r) : wordOf (l ++ r) = l := by
  unfold wordOf
  rw [List.take_append, List.take_of_length_le (by omega)]
  refine takeWhile_stop hl fun c e => hr c ?_
  cases r with
  | nil => simp at e
  | cons d r =>
    have : 9 - l.length = (8 - l.length) + 1 := by omega
    rw [this, List.take_succ_cons] at e
    exact e
theorem val_cs {z : Str} (h : valS z = true) : (cs z).all lowC = true ∧ (cs z).length ≤ 8 ∧ 1 ≤ (cs z).length := by
  have h' : (decide (1 ≤ z.length) && decide (z.length ≤ 8) && z.cps.toList.all letB) = true := h
  rw [Bool.and_eq_true, Bool.and_eq_true] at h'
  exact ⟨h'.2, of_decide_eq_true h'.1.2, of_decide_eq_true h'.1.1⟩
theorem namE {d : PyData} (h : namD d = true) : ∃ z, d = .str z ∧ valS z = true ∧ z ∉ resv := by
  cases d with
  | str z =>
    have h' : (valS z && !decide (z ∈ resv)) = true := h
    rw [Bool.and_eq_true] at h'
    exact ⟨z, rfl, h'.1, by simpa using h'.2⟩
  | _ => cases h
theorem pName_cat {z : Str} {r : Cs} (h : namD (.str z) = true) (hr : Stop r) : pName (cs z ++ r) = some (.str z, r) := by
  obtain ⟨_, e, hv, _⟩ := namE h
  cases e
  obtain ⟨h1, h2, _⟩ := val_cs hv
  have e := wordOf_cat h1 h2 hr
  unfold pName
  rw [e, mkS_cs, if_pos h, List.drop_left]
theorem pVal_cat {z : Str} {r : Cs} (h : valS z = true) : pVal (cs ("'" : Str) ++ (cs z ++ (cs ("'" : Str) ++ r))) = some (.str z, r) := by
  obtain ⟨h1, h2, _⟩ := val_cs h
  have hr : Stop (cs ("'" : Str) ++ r) := fun c e => by cases e; decide +kernel
  have e := wordOf_cat h1 h2 hr
  unfold pVal
  rw [tk_cat]
  show (if valD (.str (mkS (wordOf (cs z ++ (cs ("'" : Str) ++ r))))) then (tk "'" ((cs z ++ (cs ("'" : Str) ++ r)).drop (wordOf (cs z ++ (cs ("'" : Str) ++ r))).length)).map _ else none) = _
  rw [e, mkS_cs, if_pos (show valD (.str z) = true from h), List.drop_left, tk_cat]
  rfl
end My

namespace My
open PySem PySem.Spec PyProof.Rows L2
/-! ### the texts of statements, as functions of the data -/
def sv : PyData → Str
  | .str z => z
  | _ => Str.empty
def dotT (a b : PyData) : Str := match a with
  | .str l => l ++ ("." : Str) ++ sv b
  | _ => sv b
def quoT (z : Str) : Str := ("'" : Str) ++ z ++ ("'" : Str)
def termT : Nat → PyData → Str
  | _, .str z => quoT z
  | _, .tuple [a, b] => dotT a b
  | k + 1, .tuple [_, s, n, .tuple ts] => dotT s n ++ ("(" : Str) ++ Txt.join (", " : Str) (ts.map (termT k)) ++ (")" : Str)
  | _, _ => Str.empty
def cellT : PyData → Str
  | .tuple [a, b] => dotT a b
  | _ => Str.empty
def toldT : PyData → Str
  | .tuple [_, n] => sv n ++ (".*" : Str)
  | .tuple [_, .tuple [a, b], n] => if sv b = sv n then dotT a b else dotT a b ++ (" as " : Str) ++ sv n
  | .tuple [_, t, n] => termT 3 t ++ (" as " : Str) ++ sv n
  | _ => Str.empty
def srcT : PyData → Str
  | .tuple [s, n, l] => if sv l = sv n then dotT s n else dotT s n ++ (" " : Str) ++ sv l
  | _ => Str.empty
def valsT (ds : List PyData) : Str := ("(" : Str) ++ Txt.join (", " : Str) (ds.map fun d => quoT (sv d)) ++ (")" : Str)
def condT : PyData → Str
  | .tuple [.str z, a, .tuple ds] => if z = "equal" then cellT a ++ (" = " : Str) ++ cellT (.tuple ds) else cellT a ++ (" in " : Str) ++ valsT ds
  | _ => Str.empty
def selT (b : Bool) : Str := if b = true then "select distinct " else "select "
def whereT (cs : List PyData) : Str := if cs.isEmpty = true then Str.empty else (" where " : Str) ++ Txt.join (" and " : Str) (cs.map condT)
def writeT : PyData → Str
  | .tuple [.bool b, .tuple ts, .tuple ss, .tuple cs] => selT b ++ Txt.join (", " : Str) (ts.map toldT) ++ ((" from " : Str) ++ Txt.join (", " : Str) (ss.map srcT)) ++ whereT cs
  | _ => Str.empty
/-! ### reading a text gives back what was written -/
theorem cs_join1 (s a : Str) : cs (Txt.join s [a]) = cs a := by
  rfl
theorem fold_cs (s : Str) : ∀ (l : List Str) (acc : Array Nat), (l.foldl (fun acc p => acc ++ s.cps ++ p.cps) acc).toList = acc.toList ++ (l.map fun p => cs s ++ cs p).flatten
  | [], acc => by simp
  | p :: l, acc => by
    show (l.foldl (fun acc p => acc ++ s.cps ++ p.cps) (acc ++ s.cps ++ p.cps)).toList = _
    rw [fold_cs s l]
    simp [List.append_assoc]
theorem cs_join (s a : Str) (l : List Str) : cs (Txt.join s (a :: l)) = cs a ++ (l.map fun p => cs s ++ cs p).flatten := fold_cs s l a.cps
theorem name_head {z : Str} (h : valS z = true) : ∃ c t, cs z = c :: t ∧ lowC c = true := by
  obtain ⟨h1, _, h3⟩ := val_cs h
  cases e : cs z with
  | nil => rw [e] at h3; exact absurd h3 (by decide)
  | cons c t => rw [e] at h1; exact ⟨c, t, rfl, List.all_eq_true.mp h1 c (List.mem_cons_self ..)⟩
theorem tk_name {s : Str} {c : Nat} {t r : Cs} {z : Str} (e : cs s = c :: t) (hc : lowC c = false) (h : valS z = true) : tk s (cs z ++ r) = none := by
  obtain ⟨d, u, e2, hd⟩ := name_head h
  refine tk_none1 e fun d' e3 => ?_
  rw [e2] at e3
  cases e3
  intro z; rw [z, hc] at hd; exact Bool.noConfusion hd
theorem nnE {d : PyData} (h : nnD d = true) : d = .none ∨ namD d = true := by
  have h' : (isNone d || namD d) = true := h
  rw [Bool.or_eq_true] at h'
  rcases h' with h | h
  · cases d <;> first | exact .inl rfl | cases h
  · exact .inr h
/-- no letter and no dot stand next -/
def StopD (r : Cs) : Prop := ∀ c, r.head? = some c → lowC c = false ∧ c ≠ 46
theorem StopT.d {r : Cs} (h : StopT r) : StopD r := fun c e => by rcases h c e with rfl | rfl | rfl <;> exact ⟨by decide +kernel, by decide⟩
theorem StopD.stop {r : Cs} (h : StopD r) : Stop r := fun c e => (h c e).1
theorem pDot_cat {a b : PyData} {r : Cs} (ha : nnD a = true) (hb : namD b = true) (hr : StopD r) : pDot (cs (dotT a b) ++ r) = some ((a, b), r) := by
  obtain ⟨z, rfl, hz, _⟩ := namE hb
  rcases nnE ha with rfl | ha
  · show pDot (cs z ++ r) = _
    unfold pDot
    rw [pName_cat hb hr.stop]
    simp only [Option.bind_some, tk_none1 (s := ".") (c := 46) (t := []) (by decide +kernel) fun c e => (hr c e).2]
  · obtain ⟨y, rfl, hy, _⟩ := namE ha
    have e : cs (dotT (.str y) (.str z)) ++ r = cs y ++ (cs ("." : Str) ++ (cs z ++ r)) := by
      show cs (y ++ ("." : Str) ++ z) ++ r = _
      rw [cs_cat, cs_cat, List.append_assoc, List.append_assoc]
    rw [e]
    unfold pDot
    rw [pName_cat ha (fun c e => by cases e; decide +kernel)]
    simp only [Option.bind_some, tk_cat, pName_cat hb hr.stop, Option.map_some]
theorem tk_dot {s : Str} {c : Nat} {t r : Cs} {a b : PyData} (e : cs s = c :: t) (hc : lowC c = false) (ha : nnD a = true) (hb : namD b = true) : tk s (cs (dotT a b) ++ r) = none := by
  obtain ⟨z, rfl, hz, _⟩ := namE hb
  rcases nnE ha with rfl | ha
  · exact tk_name e hc hz
  · obtain ⟨y, rfl, hy, _⟩ := namE ha
    have e2 : cs (dotT (.str y) (.str z)) ++ r = cs y ++ (cs ("." : Str) ++ (cs z ++ r)) := by
      show cs (y ++ ("." : Str) ++ z) ++ r = _
      rw [cs_cat, cs_cat, List.append_assoc, List.append_assoc]
    rw [e2]
    exact tk_name e hc hy
theorem colE {d : PyData} (h : colD d = true) : ∃ a b, d = .tuple [a, b] ∧ nnD a = true ∧ namD b = true := by
  have h' : (pairD d && (nnD (at' d 0) && namD (at' d 1))) = true := h
  rw [Bool.and_eq_true, Bool.and_eq_true] at h'
  obtain ⟨h1, h2, h3⟩ := h'
  obtain ⟨ht, hl⟩ := tupN_tup h1
  cases d <;> try cases ht
  rename_i ds
  have hl' : ds.length = 2 := hl
  match ds, hl' with
  | [a, b], _ => exact ⟨a, b, rfl, h2, h3⟩
theorem eqSE {d : PyData} {z : Str} (h : eqS d z = true) : d = .str z := by
  cases d with
  | str y => have : y = z := by simpa [eqS] using h
             rw [this]
  | _ => cases h
theorem tupE {lo hi : Int} {f : PyData → Bool} {d : PyData} (h : tupD lo hi f d = true) : ∃ ds, d = .tuple ds ∧ lo ≤ ds.length ∧ (ds.length : Int) ≤ hi ∧ ∀ x ∈ ds, f x = true := by
  cases d with
  | tuple ds =>
    have h' : (decide (lo ≤ ds.length) && decide ((ds.length : Int) ≤ hi) && ds.all f) = true := h
    rw [Bool.and_eq_true, Bool.and_eq_true] at h'
    exact ⟨ds, rfl, of_decide_eq_true h'.1.1, of_decide_eq_true h'.1.2, List.all_eq_true.mp h'.2⟩
  | _ => cases h
theorem callE {k : Nat} {d : PyData} (h : callD k d = true) : ∃ j s n ts, k = j + 1 ∧ d = .tuple [.str "call", s, n, .tuple ts] ∧ nnD s = true ∧ namD n = true ∧ 1 ≤ ts.length ∧ ts.length ≤ 2 ∧ ∀ t ∈ ts, (colD t || valD t || callD j t) = true := by
  cases k with
  | zero => cases h
  | succ j =>
    have h' : (tupN d 4 && (eqS (at' d 0) "call" && nnD (at' d 1) && namD (at' d 2)) && tupD 1 2 (fun x => colD x || valD x || callD j x) (at' d 3)) = true := h
    simp only [Bool.and_eq_true] at h'
    obtain ⟨⟨h1, ⟨h2, h3⟩, h4⟩, h5⟩ := h'
    obtain ⟨ht, hl⟩ := tupN_tup h1
    cases d <;> try cases ht
    rename_i ds
    have hl' : ds.length = 4 := hl
    match ds, hl' with
    | [a, b, c, e], _ =>
      have e1 : a = .str "call" := eqSE h2
      obtain ⟨ts, e2, l1, l2, l3⟩ := tupE (d := e) h5
      subst e1 e2
      exact ⟨j, b, c, ts, rfl, rfl, h3, h4, by omega, by omega, l3⟩
theorem valE {d : PyData} (h : valD d = true) : ∃ z, d = .str z ∧ valS z = true := by
  cases d with
  | str z => exact ⟨z, rfl, h⟩
  | _ => cases h
theorem pTerm_col {k : Nat} {a b : PyData} {r : Cs} (ha : nnD a = true) (hb : namD b = true) (hr : StopT r) : pTerm k (cs (dotT a b) ++ r) = some (.tuple [a, b], r) := by
  have e1 : tk "'" (cs (dotT a b) ++ r) = none := tk_dot (s := "'") (c := 39) (t := []) (by decide +kernel) (by decide +kernel) ha hb
  have e2 : tk "(" r = none := tk_none1 (s := "(") (c := 40) (t := []) (by decide +kernel) fun c e => by rcases hr c e with rfl | rfl | rfl <;> decide
  unfold pTerm
  rw [e1, pDot_cat ha hb hr.d]
  simp only [Option.isSome_none, Bool.false_eq_true, if_false, Option.bind_some, e2]
theorem pTerm_val {k : Nat} {z : Str} {r : Cs} (h : valS z = true) : pTerm k (cs (quoT z) ++ r) = some (.str z, r) := by
  have e : cs (quoT z) ++ r = cs ("'" : Str) ++ (cs z ++ (cs ("'" : Str) ++ r)) := by
    show cs (("'" : Str) ++ z ++ ("'" : Str)) ++ r = _
    rw [cs_cat, cs_cat, List.append_assoc, List.append_assoc]
  rw [e]
  unfold pTerm
  rw [if_pos (by rw [tk_cat]; rfl)]
  exact pVal_cat h
theorem pTerm_cat : ∀ (k : Nat) {d : PyData}, (colD d || valD d || callD k d) = true → ∀ {r : Cs}, StopT r → pTerm k (cs (termT k d) ++ r) = some (d, r)
  | k, d, h, r, hr => by
    rw [Bool.or_eq_true, Bool.or_eq_true] at h
    rcases h with (h | h) | h
    · obtain ⟨a, b, rfl, ha, hb⟩ := colE h
      have e : termT k (.tuple [a, b]) = dotT a b := by cases k <;> rfl
      rw [e]
      exact pTerm_col ha hb hr
    · obtain ⟨z, rfl, hz⟩ := valE h
      have e : termT k (.str z) = quoT z := by cases k <;> rfl
      rw [e]
      exact pTerm_val hz
    · obtain ⟨j, s, n, ts, rfl, rfl, hs, hn, l1, l2, hts⟩ := callE h
      have e : cs (termT (j + 1) (.tuple [.str "call", s, n, .tuple ts])) ++ r = cs (dotT s n) ++ (cs ("(" : Str) ++ (cs (Txt.join (", " : Str) (ts.map (termT j))) ++ (cs (")" : Str) ++ r))) := by
        show cs (dotT s n ++ ("(" : Str) ++ Txt.join (", " : Str) (ts.map (termT j)) ++ (")" : Str)) ++ r = _
        rw [cs_cat, cs_cat, cs_cat, List.append_assoc, List.append_assoc, List.append_assoc]
      rw [e]
      have e1 : tk "'" (cs (dotT s n) ++ (cs ("(" : Str) ++ (cs (Txt.join (", " : Str) (ts.map (termT j))) ++ (cs (")" : Str) ++ r)))) = none := tk_dot (s := "'") (c := 39) (t := []) (by decide +kernel) (by decide +kernel) hs hn
      unfold pTerm
      rw [e1, pDot_cat hs hn (fun c e => by cases e; exact ⟨by decide +kernel, by decide⟩)]
      simp only [Option.isSome_none, Bool.false_eq_true, if_false, Option.bind_some, tk_cat]
      have st : StopT (cs (")" : Str) ++ r) := fun c e => by cases e; exact .inr (.inr rfl)
      have tn : tk ", " (cs (")" : Str) ++ r) = none := tk_none1 (s := ", ") (c := 44) (t := [32]) (by decide +kernel) fun c e => by cases e; decide
      match ts, l1, l2 with
      | [t1], _, _ =>
        have i1 := pTerm_cat j (hts t1 (List.mem_cons_self ..)) st
        simp only [List.map_cons, List.map_nil]
        rw [cs_join1, i1]
        simp only [Option.bind_some, tn, tk_cat, Option.map_some]
      | [t1, t2], _, _ =>
        have e2 : cs (Txt.join (", " : Str) [termT j t1, termT j t2]) ++ (cs (")" : Str) ++ r) = cs (termT j t1) ++ (cs (", " : Str) ++ (cs (termT j t2) ++ (cs (")" : Str) ++ r))) := by
          rw [cs_join]
          simp [List.append_assoc]
        have i1 := pTerm_cat j (hts t1 (List.mem_cons_self ..)) (r := cs (", " : Str) ++ (cs (termT j t2) ++ (cs (")" : Str) ++ r))) (fun c e => by cases e; exact .inr (.inl rfl))
        have i2 := pTerm_cat j (hts t2 (List.mem_cons_of_mem _ (List.mem_cons_self ..))) st
        simp only [List.map_cons, List.map_nil]
        rw [e2, i1]
        simp only [Option.bind_some, tk_cat, i2, Option.map_some]
end My

namespace My
open PySem PySem.Spec PyProof.Rows L2
theorem cat3 (a b c : Str) (r : Cs) : cs (a ++ b ++ c) ++ r = cs a ++ (cs b ++ (cs c ++ r)) := by rw [cs_cat, cs_cat, List.append_assoc, List.append_assoc]
theorem cat2 (a b : Str) (r : Cs) : cs (a ++ b) ++ r = cs a ++ (cs b ++ r) := by rw [cs_cat, List.append_assoc]
theorem at2 {d : PyData} {n : Nat} (h : tupN d n = true) : ∃ ds, d = .tuple ds ∧ ds.length = n := by
  obtain ⟨ht, hl⟩ := tupN_tup h
  cases d <;> try cases ht
  exact ⟨_, rfl, hl⟩
theorem toldE {d : PyData} (h : toldD d = true) : (∃ n, d = .tuple [.str "star", n] ∧ namD n = true) ∨ (∃ c n, d = .tuple [.str "column", c, n] ∧ colD c = true ∧ namD n = true) ∨
    ∃ t n, d = .tuple [.str "term", t, n] ∧ (valD t = true ∨ callD 3 t = true) ∧ namD n = true := by
  have h' : (if pairD d then eqS (at' d 0) "star" && namD (at' d 1) else tupN d 3 && namD (at' d 2) && (if eqS (at' d 0) "column" then colD (at' d 1) else eqS (at' d 0) "term" && (valD (at' d 1) || callD 3 (at' d 1)))) = true := h
  by_cases p : pairD d = true
  · rw [if_pos p, Bool.and_eq_true] at h'
    obtain ⟨ds, rfl, hl⟩ := at2 p
    match ds, hl with
    | [a, b], _ =>
      have e1 : a = .str "star" := eqSE h'.1
      subst e1
      exact .inl ⟨b, rfl, h'.2⟩
  · rw [if_neg p, Bool.and_eq_true, Bool.and_eq_true] at h'
    obtain ⟨⟨h1, h2⟩, h3⟩ := h'
    obtain ⟨ds, rfl, hl⟩ := at2 h1
    match ds, hl with
    | [a, b, c], _ =>
      by_cases q : eqS (at' (.tuple [a, b, c]) 0) "column" = true
      · rw [if_pos q] at h3
        have e1 : a = .str "column" := eqSE q
        subst e1
        exact .inr (.inl ⟨b, c, rfl, h3, h2⟩)
      · rw [if_neg q, Bool.and_eq_true, Bool.or_eq_true] at h3
        have e1 : a = .str "term" := eqSE h3.1
        subst e1
        exact .inr (.inr ⟨b, c, rfl, h3.2, h2⟩)
theorem srcE {d : PyData} (h : srcD d = true) : ∃ s n l, d = .tuple [s, n, l] ∧ nnD s = true ∧ namD n = true ∧ namD l = true := by
  have h' : (tupN d 3 && (nnD (at' d 0) && namD (at' d 1) && namD (at' d 2))) = true := h
  simp only [Bool.and_eq_true] at h'
  obtain ⟨h1, ⟨h2, h3⟩, h4⟩ := h'
  obtain ⟨ds, rfl, hl⟩ := at2 h1
  match ds, hl with
  | [a, b, c], _ => exact ⟨a, b, c, rfl, h2, h3, h4⟩
theorem condE {d : PyData} (h : condD d = true) : (∃ a b, d = .tuple [.str "equal", a, b] ∧ colD a = true ∧ colD b = true) ∨ ∃ a ds, d = .tuple [.str "in", a, .tuple ds] ∧ colD a = true ∧ 1 ≤ ds.length ∧ ds.length ≤ 8 ∧ ∀ x ∈ ds, valD x = true := by
  have h' : (tupN d 3 && colD (at' d 1) && (if eqS (at' d 0) "equal" then colD (at' d 2) else eqS (at' d 0) "in" && valsD (at' d 2))) = true := h
  rw [Bool.and_eq_true, Bool.and_eq_true] at h'
  obtain ⟨⟨h1, h2⟩, h3⟩ := h'
  obtain ⟨ds, rfl, hl⟩ := at2 h1
  match ds, hl with
  | [a, b, c], _ =>
    by_cases q : eqS (at' (.tuple [a, b, c]) 0) "equal" = true
    · rw [if_pos q] at h3
      have e1 : a = .str "equal" := eqSE q
      subst e1
      exact .inl ⟨b, c, rfl, h2, h3⟩
    · rw [if_neg q, Bool.and_eq_true] at h3
      have e1 : a = .str "in" := eqSE h3.1
      subst e1
      have h4 : valsD c = true := h3.2
      obtain ⟨ds, rfl⟩ : ∃ ds, c = .tuple ds := by cases c <;> first | exact ⟨_, rfl⟩ | cases h4
      have h5 : (decide (1 ≤ ds.length) && decide (ds.length ≤ 8) && ds.all valD && ascS (ds.map strOf)) = true := h4
      simp only [Bool.and_eq_true, decide_eq_true_eq] at h5
      exact .inr ⟨b, ds, rfl, h2, h5.1.1.1, h5.1.1.2, List.all_eq_true.mp h5.1.2⟩
theorem stE {d : PyData} (h : stD d = true) : ∃ b ts ss cc, d = .tuple [.bool b, .tuple ts, .tuple ss, .tuple cc] ∧ (1 ≤ ts.length ∧ ts.length ≤ 8 ∧ ∀ x ∈ ts, toldD x = true) ∧ (1 ≤ ss.length ∧ ss.length ≤ 4 ∧ ∀ x ∈ ss, srcD x = true) ∧ cc.length ≤ 8 ∧ ∀ x ∈ cc, condD x = true := by
  have h' : (tupN d 4 && (isBoo (at' d 0) && tupD 1 8 toldD (at' d 1) && tupD 1 4 srcD (at' d 2) && decide (labs (at' d 2) 2).Nodup && tupD 0 8 condD (at' d 3))) = true := h
  simp only [Bool.and_eq_true] at h'
  obtain ⟨h1, ⟨⟨⟨h2, h3⟩, h4⟩, _⟩, h5⟩ := h'
  obtain ⟨ds, rfl, hl⟩ := at2 h1
  match ds, hl with
  | [a, b, c, e], _ =>
    have h2' : isBoo a = true := h2
    obtain ⟨ts, e1, l1, l2, l3⟩ := tupE (d := b) h3
    obtain ⟨ss, e2, m1, m2, m3⟩ := tupE (d := c) h4
    obtain ⟨cc, e3, n1, n2, n3⟩ := tupE (d := e) h5
    subst e1 e2 e3
    cases a <;> try cases h2'
    exact ⟨_, ts, ss, cc, rfl, ⟨by omega, by omega, l3⟩, ⟨by omega, by omega, m3⟩, by omega, n3⟩
/-! a list of things -/
theorem pMore_cat {p : Cs → Option (PyData × Cs)} {sep : Str} {T : PyData → Str} {Good : Cs → Prop} (hg : ∀ r, Good (cs sep ++ r)) {r : Cs} (gr : Good r) (hr : tk sep r = none) :
    ∀ (ds : List PyData) (n : Nat), ds.length ≤ n → (∀ d ∈ ds, ∀ r', Good r' → p (cs (T d) ++ r') = some (d, r')) → pMore p sep n ((ds.map fun d => cs sep ++ cs (T d)).flatten ++ r) = some (ds, r)
  | [], n, _, _ => by
    show pMore p sep n r = _
    unfold pMore
    rw [hr]
  | d :: ds, 0, h, _ => absurd h (by simp)
  | d :: ds, n + 1, h, k => by
    have e : ((d :: ds).map fun d => cs sep ++ cs (T d)).flatten ++ r = cs sep ++ (cs (T d) ++ ((ds.map fun d => cs sep ++ cs (T d)).flatten ++ r)) := by
      rw [List.map_cons, List.flatten_cons, List.append_assoc, List.append_assoc]
    rw [e]
    unfold pMore
    rw [tk_cat]
    have g2 : Good ((ds.map fun d => cs sep ++ cs (T d)).flatten ++ r) := by
      cases ds with
      | nil => exact gr
      | cons x ds => rw [List.map_cons, List.flatten_cons, List.append_assoc, List.append_assoc]; exact hg _
    have i1 := k d (List.mem_cons_self ..) _ g2
    have i2 := pMore_cat hg gr hr ds n (by simpa using h) fun x hx => k x (List.mem_cons_of_mem _ hx)
    simp only [i1, Option.bind_some, i2, Option.map_some]
theorem pList_cat {p : Cs → Option (PyData × Cs)} {sep : Str} {T : PyData → Str} {Good : Cs → Prop} (hg : ∀ r, Good (cs sep ++ r)) {r : Cs} (gr : Good r) (hr : tk sep r = none) {ds : List PyData} {n : Nat} (l1 : 1 ≤ ds.length) (l2 : ds.length ≤ n)
    (k : ∀ d ∈ ds, ∀ r', Good r' → p (cs (T d) ++ r') = some (d, r')) : pList p sep n (cs (Txt.join sep (ds.map T)) ++ r) = some (ds, r) := by
  cases ds with
  | nil => exact absurd l1 (by decide)
  | cons d ds =>
    have e : cs (Txt.join sep ((d :: ds).map T)) ++ r = cs (T d) ++ ((ds.map fun d => cs sep ++ cs (T d)).flatten ++ r) := by
      rw [List.map_cons, cs_join, List.map_map, List.append_assoc]
      rfl
    have g2 : Good ((ds.map fun d => cs sep ++ cs (T d)).flatten ++ r) := by
      cases ds with
      | nil => exact gr
      | cons x ds => rw [List.map_cons, List.flatten_cons, List.append_assoc, List.append_assoc]; exact hg _
    rw [e]
    unfold pList
    rw [k d (List.mem_cons_self ..) _ g2]
    have i2 := pMore_cat hg gr hr ds (n - 1) (by have : ds.length + 1 ≤ n := l2; omega) fun x hx => k x (List.mem_cons_of_mem _ hx)
    simp only [Option.bind_some, i2, Option.map_some]
/-! told things -/
def GoodTo (r : Cs) : Prop := StopT r ∧ tk " as " r = none
theorem as_comma (r : Cs) : tk " as " (cs (", " : Str) ++ r) = none := tk_none1 (s := " as ") (c := 32) (t := cs ("as " : Str)) (by decide +kernel) fun c e => by cases e; decide
theorem pTold1_cat {t : PyData} {n : PyData} {r : Cs} (ht : (colD t || valD t || callD 3 t) = true) (hn : namD n = true) (hr : StopT r) (hc : colD t = false) :
    pTold1 (cs (termT 3 t ++ (" as " : Str) ++ sv n) ++ r) = some (.tuple [.str "term", t, n], r) := by
  obtain ⟨z, rfl, _⟩ := namE hn
  rw [cat3]
  unfold pTold1
  rw [pTerm_cat 3 ht (r := cs (" as " : Str) ++ (cs (sv (.str z)) ++ r)) (fun c e => by cases e; exact .inl rfl)]
  simp only [Option.bind_some, hc, Bool.false_eq_true, if_false, tk_cat]
  show (pName (cs z ++ r)).map _ = _
  rw [pName_cat hn hr.stop]
  rfl
theorem not_col_val {t : PyData} (h : valD t = true) : colD t = false := by
  obtain ⟨z, rfl, _⟩ := valE h
  rfl
theorem not_col_call {k : Nat} {t : PyData} (h : callD k t = true) : colD t = false := by
  obtain ⟨j, s, n, ts, rfl, rfl, _⟩ := callE h
  rfl
/-- a told thing that begins as a name does: no star -/
theorem pTold_dot {a b : PyData} {r : Cs} (ha : nnD a = true) (hb : namD b = true) (hr : ∀ c, r.head? = some c → lowC c = false ∧ c ≠ 46) : pTold (cs (dotT a b) ++ r) = pTold1 (cs (dotT a b) ++ r) := by
  have e1 : tk "'" (cs (dotT a b) ++ r) = none := tk_dot (s := "'") (c := 39) (t := []) (by decide +kernel) (by decide +kernel) ha hb
  unfold pTold
  rw [e1]
  simp only [Option.isSome_none, Bool.false_eq_true, if_false]
  obtain ⟨z, rfl, hz, _⟩ := namE hb
  rcases nnE ha with rfl | ha
  · show (pName (cs z ++ r)).bind _ = _
    rw [pName_cat hb fun c e => (hr c e).1]
    have : tk ".*" r = none := tk_none1 (s := ".*") (c := 46) (t := [42]) (by decide +kernel) fun c e => (hr c e).2
    simp only [Option.bind_some, this]
  · obtain ⟨y, rfl, hy, _⟩ := namE ha
    have e2 : cs (dotT (.str y) (.str z)) ++ r = cs y ++ (cs ("." : Str) ++ (cs z ++ r)) := cat3 _ _ _ _
    rw [e2, pName_cat ha (fun c e => by cases e; decide +kernel)]
    obtain ⟨c, u, e3, hc⟩ := name_head hz
    have : tk ".*" (cs ("." : Str) ++ (cs z ++ r)) = none := by
      rw [e3]
      exact tk_none2 (s := ".*") (a := 46) (b := 42) (c := 46) (d := c) (t := []) (u := u ++ r) (by decide +kernel) fun e => by rw [← e] at hc; exact absurd hc (by decide +kernel)
    simp only [Option.bind_some, this]
theorem head_as (r : Cs) : ∀ c, (cs (" as " : Str) ++ r).head? = some c → lowC c = false ∧ c ≠ 46 := fun c e => by cases e; exact ⟨by decide +kernel, by decide⟩
theorem pTold_cat {d : PyData} (h : toldD d = true) {r : Cs} (hr : GoodTo r) : pTold (cs (toldT d) ++ r) = some (d, r) := by
  rcases toldE h with ⟨n, rfl, hn⟩ | ⟨c, n, rfl, hc, hn⟩ | ⟨t, n, rfl, ht, hn⟩
  · obtain ⟨z, rfl, hz, _⟩ := namE hn
    show pTold (cs (z ++ (".*" : Str)) ++ r) = _
    rw [cat2]
    have e1 : tk "'" (cs z ++ (cs (".*" : Str) ++ r)) = none := tk_name (s := "'") (c := 39) (t := []) (by decide +kernel) (by decide +kernel) hz
    unfold pTold
    rw [e1, pName_cat hn (fun c e => by cases e; decide +kernel)]
    simp only [Option.isSome_none, Bool.false_eq_true, if_false, Option.bind_some, tk_cat]
  · obtain ⟨a, b, rfl, ha, hb⟩ := colE hc
    have e0 : toldT (.tuple [.str "column", .tuple [a, b], n]) = if sv b = sv n then dotT a b else dotT a b ++ (" as " : Str) ++ sv n := rfl
    obtain ⟨z, rfl, hz, _⟩ := namE hn
    obtain ⟨y, rfl, hy, _⟩ := namE hb
    rw [e0]
    by_cases e : sv (.str y) = sv (.str z)
    · rw [if_pos e]
      have e' : y = z := e
      subst e'
      rw [pTold_dot ha hb hr.1.d]
      unfold pTold1
      rw [pTerm_col ha hb hr.1]
      simp only [Option.bind_some, hc, if_true, hr.2]
      rfl
    · rw [if_neg e, cat3, pTold_dot ha hb (head_as _)]
      unfold pTold1
      rw [pTerm_col ha hb (r := cs (" as " : Str) ++ (cs (sv (.str z)) ++ r)) (fun c e => by cases e; exact .inl rfl)]
      simp only [Option.bind_some, hc, if_true, tk_cat]
      show (pName (cs z ++ r)).map _ = _
      rw [pName_cat hn hr.1.stop]
      rfl
  · have ht' : (colD t || valD t || callD 3 t) = true := by rcases ht with h | h <;> simp [h]
    have hc : colD t = false := by rcases ht with h | h; exact not_col_val h; exact not_col_call h
    have e0 : toldT (.tuple [.str "term", t, n]) = termT 3 t ++ (" as " : Str) ++ sv n := by
      rcases ht with h | h
      · obtain ⟨z, rfl, _⟩ := valE h; rfl
      · obtain ⟨j, s, m, ts, e, rfl, _⟩ := callE h; rfl
    rw [e0]
    have k := pTold1_cat ht' hn hr.1 hc
    rcases ht with h | h
    · obtain ⟨z, rfl, hz⟩ := valE h
      rw [← k, cat3]
      have e1 : (tk "'" (cs (termT 3 (.str z)) ++ (cs (" as " : Str) ++ (cs (sv n) ++ r)))).isSome = true := by
        have : cs (termT 3 (.str z)) ++ (cs (" as " : Str) ++ (cs (sv n) ++ r)) = cs ("'" : Str) ++ (cs z ++ (cs ("'" : Str) ++ (cs (" as " : Str) ++ (cs (sv n) ++ r)))) := cat3 _ _ _ _
        rw [this, tk_cat]; rfl
      unfold pTold
      rw [if_pos e1]
    · obtain ⟨j, s, m, ts, e, rfl, hs, hm, _⟩ := callE h
      rw [← k, cat3]
      have : cs (termT 3 (.tuple [.str "call", s, m, .tuple ts])) ++ (cs (" as " : Str) ++ (cs (sv n) ++ r)) = cs (dotT s m) ++ (cs ("(" : Str) ++ (cs (Txt.join (", " : Str) (ts.map (termT 2))) ++ (cs (")" : Str) ++ (cs (" as " : Str) ++ (cs (sv n) ++ r))))) := by
        show cs (dotT s m ++ ("(" : Str) ++ Txt.join (", " : Str) (ts.map (termT 2)) ++ (")" : Str)) ++ _ = _
        rw [cs_cat, cs_cat, cs_cat, List.append_assoc, List.append_assoc, List.append_assoc]
      rw [this]
      exact pTold_dot hs hm fun c e => by cases e; exact ⟨by decide +kernel, by decide⟩
/-! sources -/
def GoodS (r : Cs) : Prop := StopT r ∧ ((tk " where " r).isSome = true ∨ ((tk " where " r) = none ∧ tk " " r = none))
/-- a word that stands whole -/
theorem word_eq {l w r u : Cs} (hl : l.all lowC = true) (hw : w.all lowC = true) (hr : Stop r) (hu : Stop u) (e : l ++ r = w ++ u) : l = w := by
  have h1 := takeWhile_stop hl hr
  rw [e, takeWhile_stop hw hu] at h1
  exact h1.symm
theorem where_no {z : Str} (h : namD (.str z) = true) {r : Cs} (hr : Stop r) : tk " where " (cs (" " : Str) ++ (cs z ++ r)) = none := by
  obtain ⟨_, e, hv, hn⟩ := namE h
  cases e
  cases q : tk " where " (cs (" " : Str) ++ (cs z ++ r)) with
  | none => rfl
  | some u =>
    exfalso
    unfold tk at q
    split at q
    · rename_i hp
      obtain ⟨u2, e2⟩ := List.isPrefixOf_iff_prefix.mp hp
      have e3 : cs (" where " : Str) = cs (" " : Str) ++ (cs ("where" : Str) ++ cs (" " : Str)) := by decide +kernel
      rw [e3, List.append_assoc, List.append_assoc] at e2
      have e4 := List.append_cancel_left e2
      have := word_eq (val_cs hv).1 (w := cs ("where" : Str)) (by decide +kernel) hr (u := cs (" " : Str) ++ u2) (fun c e => by cases e; decide +kernel) e4.symm
      have e5 : z = "where" := by rw [← mkS_cs z, this]; exact mkS_cs _
      rw [e5] at hn
      exact hn (by decide +kernel)
    · cases q
theorem pSource_cat {d : PyData} (h : srcD d = true) {r : Cs} (hr : GoodS r) : pSource (cs (srcT d) ++ r) = some (d, r) := by
  obtain ⟨s, n, l, rfl, hs, hn, hl⟩ := srcE h
  obtain ⟨y, rfl, hy, _⟩ := namE hn
  obtain ⟨z, rfl, hz, _⟩ := namE hl
  have e0 : srcT (.tuple [s, .str y, .str z]) = if sv (.str z) = sv (.str y) then dotT s (.str y) else dotT s (.str y) ++ (" " : Str) ++ sv (.str z) := rfl
  rw [e0]
  by_cases e : sv (.str z) = sv (.str y)
  · have e' : z = y := e
    subst e'
    rw [if_pos e]
    unfold pSource
    rw [pDot_cat hs hn hr.1.d]
    rcases hr.2 with h1 | ⟨h1, h2⟩
    · simp only [Option.bind_some, h1, if_true]
    · simp only [Option.bind_some, h1, Option.isSome_none, Bool.false_eq_true, if_false, h2]
  · rw [if_neg e, cat3]
    unfold pSource
    rw [pDot_cat hs hn (r := cs (" " : Str) ++ (cs (sv (.str z)) ++ r)) (fun c e => by cases e; exact ⟨by decide +kernel, by decide⟩)]
    have w := where_no hl hr.1.stop
    have w' : tk " where " (cs (" " : Str) ++ (cs (sv (.str z)) ++ r)) = none := w
    simp only [Option.bind_some, w', Option.isSome_none, Bool.false_eq_true, if_false, tk_cat]
    show (pName (cs z ++ r)).map _ = _
    rw [pName_cat hl hr.1.stop]
    rfl
/-! conditions -/
theorem pCond_cat {d : PyData} (h : condD d = true) {r : Cs} (hr : StopT r) : pCond (cs (condT d) ++ r) = some (d, r) := by
  rcases condE h with ⟨a, b, rfl, ha, hb⟩ | ⟨a, ds, rfl, ha, l1, l2, hds⟩
  · obtain ⟨a1, a2, rfl, ha1, ha2⟩ := colE ha
    obtain ⟨b1, b2, rfl, hb1, hb2⟩ := colE hb
    have e0 : condT (.tuple [.str "equal", .tuple [a1, a2], .tuple [b1, b2]]) = dotT a1 a2 ++ (" = " : Str) ++ dotT b1 b2 := rfl
    rw [e0, cat3]
    unfold pCond
    rw [pDot_cat ha1 ha2 (r := cs (" = " : Str) ++ (cs (dotT b1 b2) ++ r)) (fun c e => by cases e; exact ⟨by decide +kernel, by decide⟩)]
    simp only [Option.bind_some, tk_cat]
    rw [pDot_cat hb1 hb2 hr.d]
    rfl
  · obtain ⟨a1, a2, rfl, ha1, ha2⟩ := colE ha
    have e0 : cs (condT (.tuple [.str "in", .tuple [a1, a2], .tuple ds])) ++ r = cs (dotT a1 a2) ++ (cs (" in (" : Str) ++ (cs (Txt.join (", " : Str) (ds.map fun d => quoT (sv d))) ++ (cs (")" : Str) ++ r))) := by
      have : condT (.tuple [.str "in", .tuple [a1, a2], .tuple ds]) = dotT a1 a2 ++ (" in " : Str) ++ valsT ds := by
        show (if ("in" : Str) = "equal" then cellT (.tuple [a1, a2]) ++ (" = " : Str) ++ cellT (.tuple ds) else cellT (.tuple [a1, a2]) ++ (" in " : Str) ++ valsT ds) = _
        rw [if_neg (by decide +kernel)]
        rfl
      rw [this]
      unfold valsT
      have e2 : cs (" in (" : Str) = cs (" in " : Str) ++ cs ("(" : Str) := by decide +kernel
      rw [cat3, cs_cat, cs_cat, e2]
      simp only [List.append_assoc]
    rw [e0]
    unfold pCond
    rw [pDot_cat ha1 ha2 (r := cs (" in (" : Str) ++ (cs (Txt.join (", " : Str) (ds.map fun d => quoT (sv d))) ++ (cs (")" : Str) ++ r))) (fun c e => by cases e; exact ⟨by decide +kernel, by decide⟩)]
    have n1 : tk " = " (cs (" in (" : Str) ++ (cs (Txt.join (", " : Str) (ds.map fun d => quoT (sv d))) ++ (cs (")" : Str) ++ r))) = none := by
      have e3 : cs (" in (" : Str) = 32 :: 105 :: [110, 32, 40] := by decide +kernel
      rw [e3]
      exact tk_none2 (s := " = ") (a := 32) (b := 61) (c := 32) (d := 105) (t := [32]) (by decide +kernel) (by decide)
    have i := pList_cat (p := pVal) (sep := ", ") (T := fun d => quoT (sv d)) (Good := fun _ => True) (fun _ => trivial) (r := cs (")" : Str) ++ r) trivial (tk_none1 (s := ", ") (c := 44) (t := [32]) (by decide +kernel) fun c e => by cases e; decide) (n := 8) l1 l2 (fun x hx r' _ => by
      obtain ⟨z, rfl, hz⟩ := valE (hds x hx)
      show pVal (cs (("'" : Str) ++ z ++ ("'" : Str)) ++ r') = _
      rw [cat3]
      exact pVal_cat hz)
    simp only [Option.bind_some, n1, tk_cat]
    rw [i]
    simp only [Option.bind_some, tk_cat, Option.map_some]
/-! statements -/
theorem first_told {d : PyData} (h : toldD d = true) (r : Cs) (hr : StopT r) : tk "distinct " (cs (toldT d) ++ r) = none := by
  cases q : tk "distinct " (cs (toldT d) ++ r) with
  | none => rfl
  | some u =>
    exfalso
    unfold tk at q
    split at q
    · rename_i hp
      obtain ⟨u2, e2⟩ := List.isPrefixOf_iff_prefix.mp hp
      have e3 : cs ("distinct " : Str) = cs ("distinct" : Str) ++ cs (" " : Str) := by decide +kernel
      rw [e3, List.append_assoc] at e2
      have no : ∀ {z : Str} {r' : Cs}, namD (.str z) = true → Stop r' → cs z ++ r' = cs (toldT d) ++ r → False := fun {z r'} hn st e => by
        obtain ⟨_, e', hv, hm⟩ := namE hn
        cases e'
        have := word_eq (val_cs hv).1 (w := cs ("distinct" : Str)) (by decide +kernel) st (u := cs (" " : Str) ++ u2) (fun c e => by cases e; decide +kernel) (e.trans e2.symm)
        have e5 : z = "distinct" := by rw [← mkS_cs z, this]; exact mkS_cs _
        rw [e5] at hm
        exact hm (by decide +kernel)
      have nd : ∀ {a b : PyData} {r' : Cs}, nnD a = true → namD b = true → Stop r' → cs (dotT a b) ++ r' = cs (toldT d) ++ r → False := fun {a b r'} ha hb st e => by
        obtain ⟨z, rfl, hz, _⟩ := namE hb
        rcases nnE ha with rfl | ha
        · exact no hb st e
        · obtain ⟨y, rfl, hy, _⟩ := namE ha
          exact no ha (r' := cs ("." : Str) ++ (cs z ++ r')) (fun c e => by cases e; decide +kernel) ((cat3 _ _ _ _).symm.trans e)
      rcases toldE h with ⟨n, rfl, hn⟩ | ⟨c, n, rfl, hc, hn⟩ | ⟨t, n, rfl, ht, hn⟩
      · obtain ⟨z, rfl, hz, _⟩ := namE hn
        exact no hn (r' := cs (".*" : Str) ++ r) (fun c e => by cases e; decide +kernel) (cat2 z (".*" : Str) r).symm
      · obtain ⟨a, b, rfl, ha, hb⟩ := colE hc
        have e0 : toldT (.tuple [.str "column", .tuple [a, b], n]) = if sv b = sv n then dotT a b else dotT a b ++ (" as " : Str) ++ sv n := rfl
        by_cases e : sv b = sv n
        · exact nd ha hb hr.stop (by rw [e0, if_pos e])
        · exact nd ha hb (r' := cs (" as " : Str) ++ (cs (sv n) ++ r)) (fun c e => by cases e; decide +kernel) (by rw [e0, if_neg e, cat3])
      · rcases ht with h | h
        · obtain ⟨z, rfl, hz⟩ := valE h
          have e4 : cs (toldT (.tuple [.str "term", .str z, n])) ++ r = cs ("'" : Str) ++ (cs z ++ (cs ("'" : Str) ++ (cs (" as " : Str) ++ (cs (sv n) ++ r)))) := by
            show cs (quoT z ++ (" as " : Str) ++ sv n) ++ r = _
            rw [cat3]
            exact cat3 _ _ _ _
          rw [e4] at e2
          have e5 : cs ("distinct" : Str) = 100 :: cs ("istinct" : Str) := by decide +kernel
          have e6 : cs ("'" : Str) = [39] := by decide +kernel
          rw [e5, e6] at e2
          injection e2 with e7 _
          exact absurd e7 (by decide)
        · obtain ⟨j, s, m, ts, e, rfl, hs, hm, _⟩ := callE h
          refine nd hs hm (r' := cs ("(" : Str) ++ (cs (Txt.join (", " : Str) (ts.map (termT 2))) ++ (cs (")" : Str) ++ (cs (" as " : Str) ++ (cs (sv n) ++ r))))) (fun c e => by cases e; decide +kernel) ?_
          show _ = cs (dotT s m ++ ("(" : Str) ++ Txt.join (", " : Str) (ts.map (termT 2)) ++ (")" : Str) ++ (" as " : Str) ++ sv n) ++ r
          rw [cs_cat, cs_cat, cs_cat, cs_cat, cs_cat]
          simp only [List.append_assoc]
    · cases q
end My

namespace My
open PySem PySem.Spec PyProof.Rows L2
theorem tk_nil {s : Str} {c : Nat} {t : Cs} (e : cs s = c :: t) : tk s [] = none := tk_none1 e fun d h => by cases h
theorem stop_nil : StopT [] := fun c e => by cases e
theorem where_cs (cc : List PyData) (h : cc ≠ []) : cs (whereT cc) = cs (" where " : Str) ++ cs (Txt.join (" and " : Str) (cc.map condT)) := by
  cases cc with
  | nil => exact absurd rfl h
  | cons c cc =>
    show cs ((" where " : Str) ++ Txt.join (" and " : Str) ((c :: cc).map condT)) = _
    rw [cs_cat]
theorem where_nil : cs (whereT []) = [] := rfl
theorem goodS_where (cc : List PyData) : GoodS (cs (whereT cc)) ∧ tk ", " (cs (whereT cc)) = none := by
  by_cases h : cc = []
  · subst h
    rw [where_nil]
    exact ⟨⟨stop_nil, .inr ⟨tk_nil (s := " where ") (c := 32) (t := cs ("where " : Str)) (by decide +kernel), tk_nil (s := " ") (c := 32) (t := []) (by decide +kernel)⟩⟩, tk_nil (s := ", ") (c := 44) (t := [32]) (by decide +kernel)⟩
  · rw [where_cs cc h]
    exact ⟨⟨fun c e => by cases e; exact .inl rfl, .inl (by rw [tk_cat]; rfl)⟩, tk_none1 (s := ", ") (c := 44) (t := [32]) (by decide +kernel) fun c e => by cases e; decide⟩
theorem goodS_comma (r : Cs) : GoodS (cs (", " : Str) ++ r) :=
  ⟨fun c e => by cases e; exact .inr (.inl rfl), .inr ⟨tk_none1 (s := " where ") (c := 32) (t := cs ("where " : Str)) (by decide +kernel) fun c e => by cases e; decide, tk_none1 (s := " ") (c := 32) (t := []) (by decide +kernel) fun c e => by cases e; decide⟩⟩
theorem pTail_cat {b : Bool} {ts ss cc : List PyData} (l1 : 1 ≤ ss.length) (l2 : ss.length ≤ 4) (hs : ∀ x ∈ ss, srcD x = true) (l3 : cc.length ≤ 8) (hc : ∀ x ∈ cc, condD x = true) :
    pTail b ts (cs (" from " : Str) ++ (cs (Txt.join (", " : Str) (ss.map srcT)) ++ cs (whereT cc))) = some (.tuple [.bool b, .tuple ts, .tuple ss, .tuple cc], []) := by
  unfold pTail
  rw [tk_cat]
  have i := pList_cat (p := pSource) (sep := ", ") (T := srcT) (Good := GoodS) goodS_comma (goodS_where cc).1 (goodS_where cc).2 l1 l2 fun x hx r' g => pSource_cat (hs x hx) g
  simp only [Option.bind_some, i]
  by_cases h : cc = []
  · subst h
    rw [where_nil, tk_nil (s := " where ") (c := 32) (t := cs ("where " : Str)) (by decide +kernel)]
  · rw [where_cs cc h, tk_cat]
    have l4 : 1 ≤ cc.length := by cases cc with | nil => exact absurd rfl h | cons _ _ => exact Nat.succ_le_succ (Nat.zero_le _)
    have j := pList_cat (p := pCond) (sep := " and ") (T := condT) (Good := StopT) (fun r c e => by cases e; exact .inl rfl) stop_nil (tk_nil (s := " and ") (c := 32) (t := cs ("and " : Str)) (by decide +kernel)) l4 l3 fun x hx r' g => pCond_cat (hc x hx) g
    rw [List.append_nil] at j
    simp only [j, Option.map_some]
theorem goodT_from (r : Cs) : GoodTo (cs (" from " : Str) ++ r) := ⟨fun c e => by cases e; exact .inl rfl, by
  have e3 : cs (" from " : Str) = 32 :: 102 :: cs ("rom " : Str) := by decide +kernel
  rw [e3]
  exact tk_none2 (s := " as ") (a := 32) (b := 97) (c := 32) (d := 102) (t := cs ("s " : Str)) (by decide +kernel) (by decide)⟩
theorem goodT_comma (r : Cs) : GoodTo (cs (", " : Str) ++ r) := ⟨fun c e => by cases e; exact .inr (.inl rfl), as_comma r⟩
/-- what was written is read -/
theorem pStmt_cat {d : PyData} (h : stD d = true) : pStmt (cs (writeT d)) = some (d, []) := by
  obtain ⟨b, ts, ss, cc, rfl, ⟨l1, l2, ht⟩, ⟨m1, m2, hs⟩, n2, hc⟩ := stE h
  have e : cs (writeT (.tuple [.bool b, .tuple ts, .tuple ss, .tuple cc])) = cs (selT b) ++ (cs (Txt.join (", " : Str) (ts.map toldT)) ++ (cs (" from " : Str) ++ (cs (Txt.join (", " : Str) (ss.map srcT)) ++ cs (whereT cc)))) := by
    show cs (selT b ++ Txt.join (", " : Str) (ts.map toldT) ++ ((" from " : Str) ++ Txt.join (", " : Str) (ss.map srcT)) ++ whereT cc) = _
    rw [cs_cat, cs_cat, cs_cat, cs_cat]
    simp only [List.append_assoc]
  have i := pList_cat (p := pTold) (sep := ", ") (T := toldT) (Good := GoodTo) goodT_comma (goodT_from (cs (Txt.join (", " : Str) (ss.map srcT)) ++ cs (whereT cc))) (tk_none1 (s := ", ") (c := 44) (t := [32]) (by decide +kernel) fun c e => by cases e; decide) l1 l2 fun x hx r' g => pTold_cat (ht x hx) g
  have j := pTail_cat (b := b) (ts := ts) m1 m2 hs n2 hc
  rw [e]
  unfold pStmt
  cases b with
  | true =>
    have e2 : cs (selT true) = cs ("select " : Str) ++ cs ("distinct " : Str) := by decide +kernel
    rw [e2, List.append_assoc, tk_cat]
    have e3 : pSel (cs ("distinct " : Str) ++ (cs (Txt.join (", " : Str) (ts.map toldT)) ++ (cs (" from " : Str) ++ (cs (Txt.join (", " : Str) (ss.map srcT)) ++ cs (whereT cc))))) = (true, cs (Txt.join (", " : Str) (ts.map toldT)) ++ (cs (" from " : Str) ++ (cs (Txt.join (", " : Str) (ss.map srcT)) ++ cs (whereT cc)))) := by
      unfold pSel
      rw [tk_cat]
    simp only [Option.bind_some, e3, i, j]
  | false =>
    have e2 : cs (selT false) = cs ("select " : Str) := by decide +kernel
    rw [e2, tk_cat]
    have e4 : tk "distinct " (cs (Txt.join (", " : Str) (ts.map toldT)) ++ (cs (" from " : Str) ++ (cs (Txt.join (", " : Str) (ss.map srcT)) ++ cs (whereT cc)))) = none := by
      cases ts with
      | nil => exact absurd l1 (by decide)
      | cons t ts =>
        rw [List.map_cons, cs_join, List.append_assoc]
        refine first_told (ht t (List.mem_cons_self ..)) _ ?_
        cases ts with
        | nil => exact fun c e => by cases e; exact .inl rfl
        | cons x ts => exact fun c e => by cases e; exact .inr (.inl rfl)
    have e3 : pSel (cs (Txt.join (", " : Str) (ts.map toldT)) ++ (cs (" from " : Str) ++ (cs (Txt.join (", " : Str) (ss.map srcT)) ++ cs (whereT cc)))) = (false, cs (Txt.join (", " : Str) (ts.map toldT)) ++ (cs (" from " : Str) ++ (cs (Txt.join (", " : Str) (ss.map srcT)) ++ cs (whereT cc)))) := by
      unfold pSel
      rw [e4]
    simp only [Option.bind_some, e3, i, j]
end My

namespace My
open PySem PySem.Spec PyProof.Rows L2
/-! ### own errors, objects, methods, while -/
abbrev vErr : List Value := [.type "ValueError", .type "Exception", .type "BaseException", .type "object"]
/-- a class of errors over ValueError without a body -/
structure ErrC (K : PySem.W.Frag) (mg : Str → Option Value) (n : Str) (C : Addr) : Prop where
  g : mg n = some (.ref C)
  x : PySem.W.excIn K C vErr "ValueError.__new__" = true
  k : PySem.W.keepIn K (.ref C) = true
  b : PySem.W.subIn K (.ref C) (.type "BaseException") = some true
  t : PySem.W.typeIn K (.ref C) = some (.type "type")
/-- all of a def that may raise, by its name -/
structure CalX (P : Program) (w : World) (K : PySem.W.Frag) (mg : Str → Option Value) (base : Heap) (k : Nat) (x : Str) (sp : Sp) : Prop where
  ex : ∃ (f : Addr) (fd : FuncData) (ps : List Str), FnOk P w K mg base (L2.CX P w) k f fd ps sp ∧ mg x = some (.ref f) ∧ PySem.W.keepIn K (.ref f) = true ∧ Binds K fd ps []
/-- a def at an address, that may raise -/
structure AtX (P : Program) (w : World) (K : PySem.W.Frag) (mg : Str → Option Value) (base : Heap) (k : Nat) (f : Addr) (sp : Sp) : Prop where
  ex : ∃ (fd : FuncData) (ps : List Str), FnOk P w K mg base (L2.CX P w) k f fd ps sp ∧ PySem.W.keepIn K (.ref f) = true ∧ Binds K fd ps []
/-- a method of the class at C -/
structure MetN (P : Program) (w : World) (K : PySem.W.Frag) (mg : Str → Option Value) (base : Heap) (cx : CXT) (k : Nat) (C : Addr) (m : Str) (sp : Sp) : Prop where
  ex : ∃ (f : Addr) (fd : FuncData) (ps : List Str), FnOk P w K mg base cx k f fd ps sp ∧ Meth K C m f ∧ Binds K fd ps []
/-- the class at C is made by an __init__ -/
structure MakN (P : Program) (w : World) (K : PySem.W.Frag) (mg : Str → Option Value) (base : Heap) (cx : CXT) (k : Nat) (x : Str) (C : Addr) (sp : Sp) : Prop where
  ex : ∃ (f : Addr) (fd : FuncData) (ps : List Str), FnOk P w K mg base cx k f fd ps sp ∧ Mk K C f ∧ mg x = some (.ref C) ∧ Binds K fd ps []
theorem Fun.okXW {P : Program} {w : World} {K : PySem.W.Frag} {mg : Str → Option Value} {base : Heap} {x qual : Str} {st : Stmt} {f : Addr} {fd : FuncData} {N ps : List Str} {k : Nat} {sp : Sp} (F : Fun K x qual st f fd) (S : FnScope N ps (defScope st))
    (len : ∀ vs H Q E, sp vs H Q E → vs.length = ps.length)
    (body : ∀ (cdv : Value) (B : Around) (out : List Env) (s : Shared) (H : Hp) (vs : List V) (Q : VK) (E : XK), Room k (B.deeper (envOfC qual (defScope st) s.heap.objs.size f cdv)) →
      Takes (cxOf (L2.CX P w) P w K mg base N qual (defScope st) f cdv B out s H E) (fun cls d _ H => E cls d H) →
      PassesOwn (model P w) (B.deeper (envOfC qual (defScope st) s.heap.objs.size f cdv)) (envOfC qual (defScope st) s.heap.objs.size f cdv) (cxOf (L2.CX P w) P w K mg base N qual (defScope st) f cdv B out s H E).xe → sp vs H Q E →
      WL (cxOf (L2.CX P w) P w K mg base N qual (defScope st) f cdv B out s H E) (defBody st) { nx := fun _ H' => Q .non H', rt := Q } (start N vs) H) : FnOk P w K mg base (L2.CX P w) (k + 1) f fd ps sp :=
  F.okX S len fun cdv B out s H vs Q E hr h => ⟨_, pL, body cdv B out s H vs Q E hr (takes_of rfl rfl rfl rfl) (passes_of rfl) h⟩
section
variable {X : Cx} {W : WX} {E : XK} {o e c : Expr} {es : List Expr} {σ : L2.St} {H : Hp} {Q : VK} {D : Ends} {pos apos pos' tpos p p2 : Pos} {x m f : Str} {C : Addr} {k j : Nat} {sp : Sp}
theorem s_raise {i : Nat} (R : ErrC X.K X.mg x C) (tk : Takes X W) (q : W (.ref C) none σ H) (hc : X.calm = true := by rfl) (hg : Gl X x := by rfl) (hdb : (x == ("__debug__" : Str)) = false := by decide) : WS X (.Raise (some (.Call (.Name x p) [.Constant (.str m) i p2] [] pos)) none pos') D σ H :=
  toS (ps_raise hc tk (pmk_own PySem.F.excBase_ValueError R.x R.g R.k (raises_own R.b R.t) hg hdb)) q
theorem e_x (c : CalX X.prog X.w X.K X.mg X.base k x sp) (tk : Takes X W) (hr : Room j X.A) (hk : k ≤ j) (h : WA X (e :: es) σ H fun vs H1 => sp vs H1 Q fun cls d H' => W cls d σ H') (hg : Gl X x := by rfl)
    (hdb : (x == ("__debug__" : Str)) = false := by decide) (he : starEach (e :: es) X.env = (false, eval e X.env) :: starEach es X.env := by rfl) (hpl : (backTo pos (starEach es X.env)).any (·.1) = false := by rfl) :
    WE X (.Call (.Name x p) (e :: es) [] pos) σ H Q := by
  obtain ⟨f, fd, ps, F, hm, kp, hb⟩ := c.ex
  exact toE (pe_callS (E := fun σ cls d H => W cls d σ H) F (hr.mono hk) hg hm kp hb (fun σ => passAt tk σ) pA hdb he hpl) h
/-- a def that is held in a name -/
theorem e_xL (i : Nat) {g : Addr} (c : AtX X.prog X.w X.K X.mg X.base k g sp) (tk : Takes X fun cls d _ H => E cls d H) (hr : Room j X.A) (hk : k ≤ j) (hi : σ[i]? = some (some (.ref g))) (h : WA X (e :: es) σ H fun vs H1 => sp vs H1 Q E) (hN : X.N[i]? = some x := by rfl) (hv : Vis X.env.scope x := by first | exact Or.inl rfl | exact Or.inr (Or.inl rfl) | exact Or.inr (Or.inr rfl))
    (hdb : (x == ("__debug__" : Str)) = false := by decide) (hcd : (x == ("__classdict__" : Str)) = false := by decide) (he : starEach (e :: es) X.env = (false, eval e X.env) :: starEach es X.env := by rfl) (hpl : (backTo pos (starEach es X.env)).any (·.1) = false := by rfl) :
    WE X (.Call (.Name x p) (e :: es) [] pos) σ H Q := by
  obtain ⟨fd, ps, F, kp, hb⟩ := c.ex
  refine toE (pe_callL (i := i) F (hr.mono hk) hN hv kp hb .nil (passes_call tk fun _ _ _ _ h => h) pA hdb hcd he hpl) ⟨hi, WA.mono h fun vs H' q => ?_⟩
  show sp (vs ++ []) H' Q E
  rw [List.append_nil]; exact q
/-- o.m(e, ..) -/
theorem e_mX (c : MetN X.prog X.w X.K X.mg X.base (L2.CX X.prog X.w) k C m sp) (cl : Cls X.K C) (tk : Takes X fun cls d _ H => E cls d H) (hr : Room j X.A) (hk : k ≤ j)
    (h : WE X o σ H fun x H1 => ∃ a dx fs, x = .ref a ∧ H1 a = some (.ins C dx fs) ∧ fs.lookup m = none ∧ WA X (e :: es) σ H1 fun vs H2 => sp (.ref a :: vs) H2 Q E) {pl : Sem Bool}
    (hst : starEach (e :: es) X.env = (false, eval e X.env) :: starEach es X.env := by rfl) (hpl : (backTo pos (starEach es X.env)).any (·.1) = false := by rfl)
    (ht : eval (.Call (.Attribute o m apos) (e :: es) [] pos) X.env = (do
      let ov ← eval o X.env
      standAt apos.atName
      let (f, first) ← holding [ov] (getMethod ov m pl)
      callWith pos f first (backTo pos (starEach (e :: es) X.env)) (backToKw pos (keywordEach [] X.env))) := by rfl) : WE X (.Call (.Attribute o m apos) (e :: es) [] pos) σ H Q := by
  obtain ⟨f, fd, ps, F, hm, hb⟩ := c.ex
  refine toE (pe_meth (pl := pl) pE cl hm F (hr.mono hk) hb .nil (passes_call tk fun _ _ _ _ h => h) pA hst hpl ht) (WE.mono h fun x H1 ⟨a, dx, fs, e1, e2, e3, h2⟩ => ?_)
  subst e1
  refine ⟨a, dx, fs, rfl, e2, e3, WA.mono h2 fun vs H' q => ?_⟩
  rw [List.append_nil]; exact q
theorem e_mN (c : MetN X.prog X.w X.K X.mg X.base CX0 k C m sp) (cl : Cls X.K C) (hr : Room j X.A) (hk : k ≤ j)
    (h : WE X o σ H fun x H1 => ∃ a dx fs, x = .ref a ∧ H1 a = some (.ins C dx fs) ∧ fs.lookup m = none ∧ WA X (e :: es) σ H1 fun vs H2 => sp (.ref a :: vs) H2 Q E0) {pl : Sem Bool}
    (hst : starEach (e :: es) X.env = (false, eval e X.env) :: starEach es X.env := by rfl) (hpl : (backTo pos (starEach es X.env)).any (·.1) = false := by rfl)
    (ht : eval (.Call (.Attribute o m apos) (e :: es) [] pos) X.env = (do
      let ov ← eval o X.env
      standAt apos.atName
      let (f, first) ← holding [ov] (getMethod ov m pl)
      callWith pos f first (backTo pos (starEach (e :: es) X.env)) (backToKw pos (keywordEach [] X.env))) := by rfl) : WE X (.Call (.Attribute o m apos) (e :: es) [] pos) σ H Q := by
  obtain ⟨f, fd, ps, F, hm, hb⟩ := c.ex
  refine toE (pe_meth (pl := pl) pE cl hm F (hr.mono hk) hb .nil pass0 pA hst hpl ht) (WE.mono h fun x H1 ⟨a, dx, fs, e1, e2, e3, h2⟩ => ?_)
  subst e1
  refine ⟨a, dx, fs, rfl, e2, e3, WA.mono h2 fun vs H' q => ?_⟩
  rw [List.append_nil]; exact q
/-- o.m() -/
theorem e_mX0 (c : MetN X.prog X.w X.K X.mg X.base (L2.CX X.prog X.w) k C m sp) (cl : Cls X.K C) (tk : Takes X fun cls d _ H => E cls d H) (hr : Room j X.A) (hk : k ≤ j)
    (h : WE X o σ H fun x H1 => ∃ a dx fs, x = .ref a ∧ H1 a = some (.ins C dx fs) ∧ fs.lookup m = none ∧ sp [.ref a] H1 Q E) {pl : Sem Bool}
    (ht : eval (.Call (.Attribute o m apos) [] [] pos) X.env = (do
      let ov ← eval o X.env
      standAt apos.atName
      let (f, first) ← holding [ov] (getMethod ov m pl)
      callWith pos f first (backTo pos (starEach [] X.env)) (backToKw pos (keywordEach [] X.env))) := by rfl) : WE X (.Call (.Attribute o m apos) [] [] pos) σ H Q := by
  obtain ⟨f, fd, ps, F, hm, hb⟩ := c.ex
  exact toE (pe_meth0 (pl := pl) pE cl hm F (hr.mono hk) hb .nil (passes_call tk fun _ _ _ _ h => h) ht) (WE.mono h fun x H1 ⟨a, dx, fs, e1, e2, e3, h2⟩ => by subst e1; exact ⟨a, dx, fs, rfl, e2, e3, h2⟩)
theorem e_mN0 (c : MetN X.prog X.w X.K X.mg X.base CX0 k C m sp) (cl : Cls X.K C) (hr : Room j X.A) (hk : k ≤ j)
    (h : WE X o σ H fun x H1 => ∃ a dx fs, x = .ref a ∧ H1 a = some (.ins C dx fs) ∧ fs.lookup m = none ∧ sp [.ref a] H1 Q E0) {pl : Sem Bool}
    (ht : eval (.Call (.Attribute o m apos) [] [] pos) X.env = (do
      let ov ← eval o X.env
      standAt apos.atName
      let (f, first) ← holding [ov] (getMethod ov m pl)
      callWith pos f first (backTo pos (starEach [] X.env)) (backToKw pos (keywordEach [] X.env))) := by rfl) : WE X (.Call (.Attribute o m apos) [] [] pos) σ H Q := by
  obtain ⟨f, fd, ps, F, hm, hb⟩ := c.ex
  exact toE (pe_meth0 (pl := pl) pE cl hm F (hr.mono hk) hb .nil pass0 ht) (WE.mono h fun x H1 ⟨a, dx, fs, e1, e2, e3, h2⟩ => by subst e1; exact ⟨a, dx, fs, rfl, e2, e3, h2⟩)
/-- C(e, ..) -/
theorem e_makeX (c : MakN X.prog X.w X.K X.mg X.base (L2.CX X.prog X.w) k x C sp) (tk : Takes X fun cls d _ H => E cls d H) (hr : Room j X.A) (hk : k + 1 ≤ j)
    (h : WA X (e :: es) σ H fun vs H1 => ∀ a dx, H1 a = none → H1 dx = none → dx ≠ a → sp (.ref a :: vs) (upd (upd H1 dx (.own a)) a (.ins C dx [])) (fun v H2 => v = .non ∧ Q (.ref a) H2) E) (hg : Gl X x := by rfl)
    (hdb : (x == ("__debug__" : Str)) = false := by decide) (he : starEach (e :: es) X.env = (false, eval e X.env) :: starEach es X.env := by rfl) (hpl : (backTo pos (starEach es X.env)).any (·.1) = false := by rfl) :
    WE X (.Call (.Name x p) (e :: es) [] pos) σ H Q := by
  obtain ⟨f, fd, ps, F, M, hm, hb⟩ := c.ex
  refine toE (pe_make M F (hr.mono hk) hg hm hb .nil (passes_call tk fun _ _ _ _ h => h) pA hdb he hpl) (WA.mono h fun vs H1 q a dx n1 n2 n3 => ?_)
  rw [List.append_nil]; exact q a dx n1 n2 n3
/-- o.f -/
theorem e_fld (h : WE X o σ H fun x H1 => ∃ a C dx fs v, x = .ref a ∧ H1 a = some (.ins C dx fs) ∧ Cls X.K C ∧ NoAttr X.K C f ∧ fs.lookup f = some v ∧ Q v H1) (hb : attributeBase o f X.env (eval o X.env) = eval o X.env := by rfl) : WE X (.Attribute o f pos) σ H Q := toE (pe_fld pE hb) h
/-- o.f = e -/
theorem s_fld (h : WE X e σ H fun y H1 => WE X o σ H1 fun x H2 => ∃ a C dx fs, x = .ref a ∧ H2 a = some (.ins C dx fs) ∧ Cls X.K C ∧ NoAttr X.K C f ∧ fs.length < 1000 ∧ D.nx σ (upd H2 a (.ins C dx (putF f y fs))))
    (hs : swapsWith e (some (.Attribute o f pos')) pos.line X.env = pure false := by rfl) : WS X (.Assign [.Attribute o f pos'] e pos) D σ H := toS (ps_fld pE pE hs) h
/-- o.f += e, ints -/
theorem s_fldadd (h : WE X o σ H fun x H1 => ∃ a C dx fs v, x = .ref a ∧ H1 a = some (.ins C dx fs) ∧ Cls X.K C ∧ NoAttr X.K C f ∧ fs.lookup f = some v ∧
    WE X e σ H1 fun y H2 => ∃ i j, v = .int i ∧ y = .int j ∧ ∃ dx' fs', H2 a = some (.ins C dx' fs') ∧ fs'.length < 1000 ∧ D.nx σ (upd H2 a (.ins C dx' (putF f (.int (i + j)) fs')))) :
    WS X (.AugAssign (.Attribute o f tpos) .Add e pos) D σ H :=
  toS (ps_fldaug pE pE in_add) (WE.mono h fun x H1 ⟨a, C, dx, fs, v, e1, e2, e3, e4, e5, h2⟩ => ⟨a, C, dx, fs, v, e1, e2, e3, e4, e5, WE.mono h2 fun y H2 ⟨i, j, e6, e7, q⟩ => ⟨i, j, e6, e7, q⟩⟩)
/-- x += e, ints -/
theorem s_augI (i : Nat) (h : ∃ z : Int, σ[i]? = some (some (.int z)) ∧ WE X e σ H fun y H1 => ∃ j, y = .int j ∧ D.nx (σ.set i (some (.int (z + j)))) H1) (hN : X.N.Nodup) (hi : X.N[i]? = some x := by rfl) (hx : Loc X.env.scope x := by first | exact Or.inl rfl | exact Or.inr rfl)
    (hf : X.fn x = true ∨ X.env.scope.names.lookup x = some .local := by first | exact .inl rfl | exact .inr rfl | assumption) : WS X (.AugAssign (.Name x pos') .Add e pos) D σ H := by
  obtain ⟨z, hz, k⟩ := h
  exact toS (ps_aug (ti := fun x y H Q => ∃ i j, x = .int i ∧ y = .int j ∧ Q (.int (i + j)) H) hN hi hx pE (fun pins s σ H x y u v Q I rx ry h => iop_add pins s σ H x y u v Q I rx ry h) hf) ⟨_, hz, WE.mono k fun y H1 ⟨j, e, q⟩ => ⟨z, j, rfl, e, q⟩⟩
/-- while -/
theorem s_while {body : List Stmt} (Pv : L2.St → Hp → Prop) (μ : L2.St → Hp → Nat) (h0 : Pv σ H)
    (hs : ∀ σ H, Pv σ H → WT X c σ H fun b H1 => if b = true then WL X body { D with nx := fun σ' H' => Pv σ' H' ∧ μ σ' H' < μ σ H, ct := fun σ' H' => Pv σ' H' ∧ μ σ' H' < μ σ H, bk := D.nx } σ H1 else D.nx σ H1)
    (hp : PassesOwn (model X.prog X.w) X.A X.env X.xe) : WS X (.While c body [] pos) D σ H :=
  toS (ps_while hp pT pL) (while_by Pv μ h0 hs fun σ H Q Q' k q => WT.mono q k)
/-- o.startswith(a, b) -/
theorem e_starts {a b : Expr} (h : WE X o σ H fun x H1 => (∃ z, x = .str z) ∧ WE X a σ H1 fun y H2 => WE X b σ H2 fun u H3 => ∃ z s i, x = .str z ∧ y = .str s ∧ u = .int i ∧ Q (.bl (Txt.startswith3 z s i)) H3)
    (hbase : attributeBase o "startswith" X.env (eval o X.env) = eval o X.env := by rfl)
    (hfew : ((backTo pos (starEach [a, b] X.env)).all (fun x => !x.1) && (backToKw pos (keywordEach [] X.env)).all (fun x => x.1.isSome) && decide ([a, b].length + ([] : List Keyword).length + (if ([] : List Keyword).isEmpty then 0 else 1) < 30)) = true := by rfl)
    (hline : (apos.endLine == pos.line) = true := by rfl) (hs : starEach [a, b] X.env = (false, eval a X.env) :: starEach [b] X.env := by rfl) (hs2 : starEach [b] X.env = (false, eval b X.env) :: starEach [] X.env := by rfl) (hplain : (backTo pos (starEach [b] X.env)).any (·.1) = false := by rfl) :
    WE X (.Call (.Attribute o "startswith" apos) [a, b] [] pos) σ H Q :=
  toE (pe_bm PySem.F.plainAttrs_str PySem.F.slot_str_startswith PySem.F.type_str_startswith mt_startswith3 pE pA hbase hfew hline hs hplain) (WE.mono h fun x H1 ⟨⟨z, e1⟩, h2⟩ => by
    subst e1
    exact ⟨rfl, a_cons (WE.mono h2 fun y H2 h3 => a_cons (WE.mono h3 fun u H3 ⟨z', s, i, e1, e2, e3, q⟩ => a_nil ⟨z', s, i, e1, by rw [e2, e3], q⟩) hs2) hs⟩)
/-- o[a:b], a text -/
theorem e_slS {a b : Expr} (h : WE X o σ H fun x H1 => WE X a σ H1 fun y H2 => ∃ i, y = .int i ∧ WE X b σ H2 fun u H3 => ∃ z j, x = .str z ∧ u = .int j ∧ z.length ≤ sizeLine ∧ Q (.str (cutS z (some i) (some j))) H3) : WE X (.Subscript o (.Slice (some a) (some b) none p2) pos) σ H Q :=
  toE (pe_slice sl_str pE (po_some pE) (po_some pE)) (WE.mono h fun x H1 h1 => WE.mono h1 fun y H2 ⟨i, e2, h2⟩ => ⟨i, e2, WE.mono h2 fun u H3 ⟨z, j, e1, e3, hz, q⟩ => ⟨j, e3, z, e1, hz, q⟩⟩)
end
/-! texts at a place -/
theorem starts_eq {T s : Str} {n : Nat} (hn : n ≤ T.length) : Txt.startswith3 T s n = (tk s ((cs T).drop n)).isSome := by
  have e1 : PySem.fromIndex T.length (n : Int) = n := by unfold PySem.fromIndex; rw [if_neg (by omega)]; omega
  unfold Txt.startswith3 tk
  rw [e1]
  have e2 : (if (cs s).isPrefixOf ((cs T).drop n) then some (((cs T).drop n).drop (cs s).length) else none).isSome = (cs s).isPrefixOf ((cs T).drop n) := by
    cases h : (cs s).isPrefixOf ((cs T).drop n) <;> simp
  rw [e2]
  apply Bool.eq_iff_iff.mpr
  rw [Bool.and_eq_true, decide_eq_true_eq, List.isPrefixOf_iff_prefix, List.prefix_iff_eq_take]
  have e3 : Builtin.Str.subAt T s n = true ↔ ((cs T).drop n).take s.length = cs s := by
    show (T.cps.extract n (n + s.length) == s.cps) = true ↔ _
    rw [beq_iff_eq]
    have : (T.cps.extract n (n + s.length)).toList = ((cs T).drop n).take s.length := by
      rw [Array.toList_extract]; simp [List.extract]
    rw [← this]
    exact ⟨fun h => by rw [h], fun h => Array.toList_inj.mp h⟩
  rw [e3]
  have el : (cs s).length = s.length := rfl
  rw [el]
  constructor
  · rintro ⟨_, h⟩; exact h.symm
  · intro h
    refine ⟨?_, h.symm⟩
    have := congrArg List.length h
    rw [List.length_take, List.length_drop] at this
    have e4 : (cs T).length = T.length := rfl
    rw [el, e4] at this
    omega
end My

namespace My
open PySem PySem.Spec PyProof.Rows L2
/-! ### a caught error that outlives its suite: try: .. except C as n: y = n -/
/-- an error's own object, of the class cls, without a dict -/
def ExO (a : Addr) (cls : Value) : HO := .ext fun h => ∃ oe, h.get? a = some oe ∧ Zc cls none oe ∧ ∃ vs, oe.data = .fields vs
section
variable {X : Cx} {pins : List (Addr × Obj)} {σ : L2.St} {H : Hp} {s : Shared} {a : Addr} {oe : Obj} {cls : Value}
theorem exO_ok (h1 : s.heap.get? a = some oe) (hz : Zc cls none oe) (hd : ∃ vs, oe.data = .fields vs) {H' : Hp} : ObjOk X.prog X.w H' s.heap a (ExO a cls) :=
  ⟨⟨oe, h1, hz, hd⟩, ⟨oe, h1⟩, fun _ _ ⟨o, e, r⟩ k => ⟨o, k _ e, r⟩⟩
/-- a pinned error is tracked from here on -/
theorem inv_hold (I : Inv X ((a, oe) :: pins) σ H s) (h0 : X.s_0.heap.get? a = none) (hp : ∀ q ∈ X.pn ++ pins, q.1 ≠ a) (hz : Zc cls none oe) (hd : ∃ vs, oe.data = .fields vs) : Inv X pins σ (upd H a (ExO a cls)) s := by
  obtain ⟨g, fr, nl, nf, nc⟩ := I.pin (a, oe) (List.mem_append.mpr (.inr List.mem_cons_self))
  have na : ∀ {b : Addr} {u : HO}, H b = some u → b ≠ a := fun e z => by rw [z, fr] at e; cases e
  have n0 : ∀ {b : Addr} {u : Obj}, X.s_0.heap.get? b = some u → b ≠ a := fun e z => by rw [z, h0] at e; cases e
  have B := I.base
  have tr : ∀ {b : Addr} {u : HO}, H b = some u → upd H a (ExO a cls) b = some u := fun e => by rw [upd_ne (na e)]; exact e
  refine ⟨I.ok, I.os, I.bare, ⟨B.keep, B.slot, fun b o e n x => by rw [upd_ne (n0 e)]; exact B.free b o e n x, B.there, fun b xs e => tr (B.tups b xs e), fun b o u e => tr (B.frzs b o u e), fun b ps e => ?_⟩, I.loc, I.cell, ?_, fun x c e => ?_, fun q hq => ?_, fun b u e => ?_, I.len⟩
  · obtain ⟨m, r⟩ := B.tbls b ps e
    exact ⟨m, tr r⟩
  · rw [upd_ne (Ne.symm nl)]; exact I.free
  · have ne : c ≠ a := fun z => by
      obtain ⟨v, oc, r1, r2⟩ := I.cell x c e
      rw [z, g] at r1
      exact nc v (by cases r1; exact r2)
    rw [upd_ne ne]; exact I.freeC x c e
  · have hm : q ∈ X.pn ++ ((a, oe) :: pins) := by
      rcases List.mem_append.mp hq with z | z
      · exact List.mem_append_left _ z
      · exact List.mem_append_right _ (List.mem_cons_of_mem _ z)
    obtain ⟨r1, r2, r3⟩ := I.pin q hm
    exact ⟨r1, by rw [upd_ne (hp q hq)]; exact r2, r3⟩
  · by_cases z : b = a
    · subst z
      rw [upd_same] at e
      cases e
      exact exO_ok g hz hd
    · rw [upd_ne z] at e
      exact (I.hok b u e).stay (fun _ _ _ r => r) (fun _ r => tr r) fun _ _ r => tr r
/-- out of the suite, the error's pin kept -/
theorem inv_unsuiteK {pn' : List (Addr × Obj)} (I : Inv (X.suite a ((a, oe) :: (X.pn ++ pins))) pn' σ H s) (ok : X.Ok) : Inv X ((a, oe) :: pins) σ H s := by
  refine ⟨ok, I.os, I.bare, I.base, I.loc, I.cell, I.free, I.freeC, fun q hq => I.pin q (List.mem_append_left _ ?_), I.hok, I.len⟩
  rcases List.mem_append.mp hq with z | z
  · exact List.mem_cons_of_mem _ (List.mem_append_left _ z)
  · rcases List.mem_cons.mp z with z | z
    · rw [z]; exact List.mem_cons_self
    · exact List.mem_cons_of_mem _ (List.mem_append_right _ z)
end
/-- what the clause wishes: the error stands in y's slot j, n's slot i is gone -/
def wHold (K : PySem.W.Frag) (c : Value) (i j : Nat) (D : Ends) : WX := fun cls d σ H =>
  PySem.W.exmOne K cls c = some true ∧ d = none ∧ ∀ a, H a = none → D.nx ((σ.set j (some (.ref a))).set i none) (upd H a (ExO a cls))
section
variable {X : Cx} {x n y : Str} {c : Value} {i j : Nat} {body : List Stmt} {np py pn2 pa pos pos' : Pos} {σ : L2.St} {H : Hp} {D : Ends}
theorem s_try_hold (hs : X.stack = X.env :: X.outer) (hf : X.env.frame = some X.env.locals) (hx : X.ex = []) (hN : X.N.Nodup) (hi : X.N[i]? = some n) (hj : X.N[j]? = some y) (ij : i ≠ j) (li : X.env.kindOf n = some .local) (lj : X.env.kindOf y = some .local) (hc : Names X x c)
    (h : ∀ (pn : List (Addr × Obj)) (xe : Value → Shared → Prop), Takes (X.tr pn xe) (wHold X.K c i j D) → PassesOwn (model X.prog X.w) X.A X.env xe → WL (X.tr pn xe) body D σ H)
    (hdn : (n == ("__debug__" : Str)) = false := by decide) (hcn : (n == ("__classdict__" : Str)) = false := by decide)
    (hsw : ∀ X' : Cx, X'.env = X.env → swapsWith (.Name n pn2) (some (.Name y py)) pa.line X'.env = pure false := by intro X' e; rw [e]; rfl) :
    WS X (.Try body [.ExceptHandler (some (.Name x np)) (some n) [.Assign [.Name y py] (.Name n pn2) pa] pos'] [] [] pos) D σ H := by
  refine ⟨fun pins s I => wpAny_Try_except ?_⟩
  have ok := I.ok
  have fr : X.A.frames = some (X.env :: X.outer) := ok.frames.trans (congrArg some hs)
  have run := (h (X.pn ++ pins) (fun e s₁ => wpAny (model X.prog X.w) X.A (noteFrame e X.env) (fun _ s₂ => wpAny (model X.prog X.w) X.A (setFlight e none)
      (fun _ s₃ => wpAny (model X.prog X.w) X.A (handleBy e X.env [.ExceptHandler (some (.Name x np)) (some n) [.Assign [.Name y py] (.Name n pn2) pa] pos']) (SP X pins D) X.xe s₃) X.xe s₂) X.xe s₁) ?_ PassesOwn.looking).go [] s (I.toTry _)
  · refine wpAny_mono run (fun fl s1 q => ?_) fun _ _ z => z
    cases fl with
    | next => obtain ⟨τ, G, J, r⟩ := q; exact wpAny_execs_nil ⟨τ, G, J.ofTry ok, r⟩
    | brk => obtain ⟨τ, G, J, r⟩ := q; exact ⟨τ, G, J.ofTry ok, r⟩
    | cont => obtain ⟨τ, G, J, r⟩ := q; exact ⟨τ, G, J.ofTry ok, r⟩
    | ret u => obtain ⟨v, τ, G, J, rv, r⟩ := q; exact ⟨v, τ, G, J.ofTry ok, rv, r⟩
  -- an error
  rintro u s1 ⟨a, B, sI, qs, τ, G, cls, d, rfl, J', nb, up, sky, na, os, ag, hm, rfl, hq⟩
  have J : Inv X pins τ G sI := J'.ofTry ok
  rw [hs] at sky
  refine Sky.land Zc.steady fr hf sky fun h3 f3 u3 => ?_
  obtain ⟨o3, v3, g3, z3, d3⟩ := f3.there
  have away : a ∉ frs (X.env :: X.outer) := fun hin => by
    obtain ⟨_, o', e', bad⟩ := f3.2.2.1.mem hin
    rw [g3] at e'; cases e'
    exact bad _ d3
  have nI : sI.heap.get? a = none := by
    cases e : sI.heap.get? a with
    | none => rfl
    | some o =>
      have := nb a o e (by rw [hs]; exact away)
      rw [f3.2.1] at this; cases this
  have n0 : X.s_0.heap.get? a = none := by
    cases e : X.s_0.heap.get? a with
    | none => rfl
    | some o =>
      obtain ⟨o', e'⟩ := J.base.there a o e (by rw [hx]; exact List.not_mem_nil)
      rw [nI] at e'; cases e'
  have np' : ∀ q ∈ X.pn ++ pins, q.1 ≠ a := fun q hq z => by
    have := (J.pin q hq).1
    rw [z, nI] at this; cases this
  have nL : a ≠ X.env.locals := fun z => away (List.mem_filterMap.mpr ⟨X.env, List.mem_cons_self, by rw [hf, z]⟩)
  have nF : a ∉ X.fs := fun hin => by
    obtain ⟨e, he, r⟩ := List.mem_filterMap.mp hin
    exact away (List.mem_filterMap.mpr ⟨e, List.mem_cons_of_mem _ he, r⟩)
  have L3 : Inv X pins τ G { s1 with heap := h3 } := J.landed nb f3.1 (up.trans u3) os ag
  have S3 := L3.suite g3 d3 na nL nF
  refine wpAny_handleBy_cons (codeAny_handlers_test ?_) (by intro r; cases r)
  have ty : PySem.W.Looks (model X.prog X.w) h3 (typeOf (.ref a)) cls := fun A Q E s k r => wpAny_typeOf_ref (k _ _ g3) (by rw [z3.1]; exact r)
  have look := PySem.W.exm_one (M := model X.prog X.w) L3.kIn ty hm
  have named : ∀ {Q : Value → Shared → Prop} {E : Value → Shared → Prop}, Q c { s1 with heap := h3 } → wpAny (model X.prog X.w) (X.A.mark (some (.ref a))) (eval (.Name x np) X.env) Q E { s1 with heap := h3 } := fun r => by
    obtain ⟨gx, dx, e | ⟨e1, e2, e3⟩⟩ := hc
    · exact ld_glob (X := X.suite a ((a, o3) :: (X.pn ++ pins))) S3 gx e r dx
    · exact ld_blt (X := X.suite a ((a, o3) :: (X.pn ++ pins))) S3 gx e1 e2 r e3 dx
  refine named (look.here (codeAny_handlers_suite_as (HandSPX.lands_againZ f3 fun h4 f4 u4 => ?_)))
  obtain ⟨o4, v4, g4, z4, d4⟩ := f4.there
  have L4 : Inv X pins τ G { s1 with heap := h4 } := J.landed nb f4.1 ((up.trans u3).trans u4) os ag
  have S4 := L4.suite g4 d4 na nL nF
  refine store_ok (X := X.suite a ((a, o4) :: (X.pn ++ pins))) (v := .ref a) S4 hN hi (.inl li) rfl (fun s5 S5 => ?_) (.inr li)
  have li' : i < τ.length := by rw [J.len]; exact (List.getElem?_eq_some_iff.mp hi).1
  have asg : PSs (X.suite a ((a, o4) :: (X.pn ++ pins))) [.Assign [.Name y py] (.Name n pn2) pa] _ := pss_one (ps_set (i := j) hN hj (.inl lj) (pe_var (i := i) hi (.inl li) hdn hcn) (hsw _ rfl) (.inr lj))
  refine wpAny_mono (asg.run [] s5 _ G { nx := fun τ' G' => τ' = (τ.set i (some (.ref a))).set j (some (.ref a)) ∧ G' = G, rt := fun _ _ => False } S5 ⟨_, by rw [List.getElem?_set_self li'], rfl, rfl⟩) (fun fl s6 q => ?_) (fun _ _ z => z.elim)
  cases fl with
  | brk => obtain ⟨_, _, _, z⟩ := q; exact z.elim
  | cont => obtain ⟨_, _, _, z⟩ := q; exact z.elim
  | ret u => obtain ⟨_, _, _, _, _, z⟩ := q; exact z.elim
  | next =>
    obtain ⟨τ6, G6, S6, rfl, rfl⟩ := q
    refine gone_ok (inv_unsuiteK S6 ok) hN hi li fun s7 J7 => ⟨_, _, inv_hold J7 n0 np' z4 ⟨_, d4⟩, ?_⟩
    have e : ((τ.set i (some (V.ref a))).set j (some (V.ref a))).set i none = (τ.set j (some (V.ref a))).set i none := by
      rw [List.set_comm _ _ ij, List.set_set]
    rw [e]
    exact hq a na
end
/-! isinstance of a held error -/
section
variable {X : Cx} {e t : Expr} {σ : L2.St} {H : Hp} {Q : VK} {pos p : Pos} {D : Addr}
theorem call_isO (C : ExcC X.K D) : CallR X (.builtin "isinstance") (fun xs H Q => ∃ (a : Addr) (c : V) (cv : Value) (b : Bool), xs = [.ref a, c] ∧ H a = some (ExO a (.ref D)) ∧ (∀ u, RelV c u → u = cv) ∧ PySem.W.kitOne X.K (.ref D) cv = some b ∧ Q (.bl b) H) := by
  rintro pins s σ H xs us Q I r ⟨a, c, cv, b, rfl, ha, hcv, hk, q⟩
  cases r with
  | cons r1 r2 =>
    cases r2 with
    | cons r3 r4 =>
      cases r4
      cases r1
      have ec := hcv _ r3
      subst ec
      obtain ⟨⟨oe, g, hz, vs, hv⟩, _⟩ : ObjOk X.prog X.w H s.heap a (ExO a (.ref D)) := I.hok a _ ha
      have at_ : PySem.W.InstAt s.heap a oe D none := by
        obtain ⟨c0, d0, t0, l0⟩ := oe
        obtain ⟨h1, h2⟩ := hz
        dsimp only at h1 h2 hv
        subst h1 h2 hv
        exact ⟨g, rfl, rfl, trivial⟩
      exact PySem.W.kia_one (PySem.W.handS_kitx_exc C.hg C.hk C.hs C.hd C.ha C.hn C.ht C.hm) I.kIn at_ hk (fun z => nomatch z) fun tk => ⟨.bl b, H, I.kept (t' := tk) fun _ _ z => z, rfl, q⟩
/-- isinstance(e, T), e a held error, T a class of the program -/
theorem e_isO (hm : X.mg "isinstance" = none) (C : ExcC X.K D) {T : Str} {CT : Addr} {pT : Pos} {b : Bool} (hT : X.mg T = some (.ref CT)) (hk : PySem.W.kitOne X.K (.ref D) (.ref CT) = some b) (h : WE X e σ H fun x H1 => ∃ a, x = .ref a ∧ H1 a = some (ExO a (.ref D)) ∧ Q (.bl b) H1) (hg : Gl X "isinstance" := by rfl) (hgT : Gl X T := by rfl) (hdT : (T == ("__debug__" : Str)) = false := by decide)
    (he : starEach [e, .Name T pT] X.env = (false, eval e X.env) :: starEach [.Name T pT] X.env := by rfl) (he2 : starEach [.Name T pT] X.env = (false, eval (.Name T pT) X.env) :: starEach [] X.env := by rfl) (hpl : (backTo pos (starEach [.Name T pT] X.env)).any (·.1) = false := by rfl) :
    WE X (.Call (.Name "isinstance" p) [e, .Name T pT] [] pos) σ H Q :=
  e_callB (call_isO C) hm PyProof.Rows.boot_isinstance (a_cons (WE.mono h fun x H1 ⟨a, e1, ha, q⟩ => a_cons (e_glob (v := .ref CT) hT rfl (a_nil ⟨a, .ref CT, .ref CT, b, by rw [e1], ha, fun u r => r, hk, q⟩) hgT hdT) he2) he) hg (by decide) (by decide) he hpl
/-- isinstance(e, T), T a class that is built in -/
theorem e_isOB (hm : X.mg "isinstance" = none) (C : ExcC X.K D) {T : Str} {tn : String} {pT : Pos} {b : Bool} (hT : X.mg T = none) (hB : bootBuiltins T = some (.type tn)) (hn : T ≠ "__name__") (hk : PySem.W.kitOne X.K (.ref D) (.type tn) = some b) (h : WE X e σ H fun x H1 => ∃ a, x = .ref a ∧ H1 a = some (ExO a (.ref D)) ∧ Q (.bl b) H1) (hg : Gl X "isinstance" := by rfl) (hgT : Gl X T := by rfl) (hdT : (T == ("__debug__" : Str)) = false := by decide)
    (he : starEach [e, .Name T pT] X.env = (false, eval e X.env) :: starEach [.Name T pT] X.env := by rfl) (he2 : starEach [.Name T pT] X.env = (false, eval (.Name T pT) X.env) :: starEach [] X.env := by rfl) (hpl : (backTo pos (starEach [.Name T pT] X.env)).any (·.1) = false := by rfl) :
    WE X (.Call (.Name "isinstance" p) [e, .Name T pT] [] pos) σ H Q :=
  e_callB (call_isO C) hm PyProof.Rows.boot_isinstance (a_cons (WE.mono h fun x H1 ⟨a, e1, ha, q⟩ => a_cons (e_bltn (v := .ty tn) hT hB rfl (a_nil ⟨a, .ty tn, .type tn, b, by rw [e1], ha, fun u r => r, hk, q⟩) hgT hn hdT) he2) he) hg (by decide) (by decide) he hpl
end
end My

namespace L2
open PySem PySem.Spec PyProof.Rows
section
variable {X : Cx}
/-- list * int -/
theorem op_mulL : OpR X (binaryOp .Mult) (fun x y H Q => ∃ l k xs, x = .ref l ∧ y = .int k ∧ SqL X.K H l xs ∧ 0 ≤ k ∧ k ≤ 1000 ∧ xs.length ≤ 1000 ∧ ∀ p, H p = none → Q (.ref p) (upd H p (.lst (List.replicate k.toNat xs).flatten))) := by
  intro pins s σ H x y v u Q I rx ry h
  obtain ⟨l, k, xs, rfl, rfl, hT, h0, h1, hz, q⟩ := h
  cases rx
  obtain ⟨t, rfl⟩ := ry
  obtain ⟨its, r, pl, hs⟩ := I.list hT
  obtain ⟨⟨cls, dd, data, sl⟩, ho, hc, n, hd⟩ := pl.isList
  simp only at hc hd
  subst hc hd
  have hle : its.length = xs.length := r.length.symm
  have flen : its.toArray.size * k.toNat ≤ 1000000 := by
    rw [List.size_toArray, hle]
    exact Nat.mul_le_mul hz (show k.toNat ≤ 1000 by omega)
  refine wpAny_binaryOp_repeat_ref (T := "list") (U := "int") (by decide) ⟨_, ho, rfl⟩ (fun s' => typeIs_int s' k t) noFill_list_mul F.fills_int_mul F.slot_int_rmul repeat_list F.slot_int_index.lookup
    (call_meets F.slot_int_rmul (typeIs_int s k t) F.entry_int_rmul (F.args_int_rmul_2 _ _) (lm_int_rmul_list_any k t l its.toArray n dd sl)
      ⟨ho, rfl, ⟨_, ho, rfl⟩, call_meets F.slot_list_mul ⟨_, ho, rfl⟩ F.entry_list_mul (F.args_list_mul_2 _ _)
        (lm_list_mul_any l its.toArray n dd sl k t (by simp [Builtin.List.listFitsIndex]; omega) (by omega) (by simp only [Builtin.List.listTooLong, sizeLine_eq, decide_eq_true_eq]; omega))
        ⟨ho, ?_⟩⟩)
  rw [listMul_foldl_if]
  refine ⟨.ref s.heap.objs.size, _, I.laid (t' := s.toks) (o := .lst (List.replicate k.toNat xs).flatten) (fun b ob q => Heap.get?_push_of_some _ q) (Nat.le_refl _) ?_, rfl, q _ (I.hok.fresh (Nat.le_refl _))⟩
  exact ⟨by rw [PyProof.Rows.lm_len_rep_flat, sizeLine_eq]; have a1 : k.toNat * xs.length ≤ 1000 * 1000 := Nat.mul_le_mul (by omega) hz; omega, _, 0, r.rep k.toNat, Heap.get?_push_size _ rfl⟩
/-- text * int, also long -/
theorem op_mulS2 : OpR X (binaryOp .Mult) (fun x y H Q => ∃ z k, x = .str z ∧ y = .int k ∧ 2 ≤ k ∧ k ≤ 10000 ∧ 1 ≤ z.length ∧ z.length ≤ 100 ∧ Q (.str ⟨(List.replicate k.toNat z.cps).foldl (· ++ ·) #[]⟩) H) := by
  intro pins s σ H x y v u Q I rx ry h
  obtain ⟨z, k, rfl, rfl, h1, h2, h3, h4, q⟩ := h
  obtain ⟨t, rfl⟩ := rx
  obtain ⟨t', rfl⟩ := ry
  have hno : (k == 1 || z.length == 0) = false := by
    rw [beq_eq_false_iff_ne.mpr (show k ≠ 1 by omega), beq_eq_false_iff_ne.mpr (show z.length ≠ 0 by omega)]; rfl
  refine P.mul_str ?_ (fun _ _ => ?_) (fun _ _ => ?_) ?_
  · rw [decide_eq_false (by omega), decide_eq_false (by omega)]; rfl
  · have : (100 : Int) ≤ (2 ^ 63 - 1) / k := by
      refine Int.le_ediv_of_mul_le (by omega) ?_
      omega
    omega
  · refine decide_eq_false ?_
    rw [sizeLine_eq]
    have : z.length * k.toNat ≤ 100 * 10000 := Nat.mul_le_mul h4 (by omega)
    omega
  · rw [if_neg (by omega), hno, if_neg (by decide)]
    refine ⟨?_, ⟨.str _, H, I.tok _, ⟨_, rfl⟩, q⟩⟩
    show ((List.replicate k.toNat z.cps).foldl (fun x1 x2 => x1 ++ x2) #[]).size ≤ sizeLine
    rw [rep_size, sizeLine_eq]
    have : k.toNat * z.cps.size ≤ 10000 * 100 := Nat.mul_le_mul (by omega) h4
    show #[].size + _ ≤ _
    simp only [List.size_toArray, List.length_nil]
    omega
def chars (z : Str) : List Str := z.cps.toList.map fun c => ⟨#[c]⟩
theorem vals_signs : ∀ (cs : List Nat) (its : List Value), its.length = cs.length → (∀ (j : Nat) (v : Value), its[j]? = some v → ∃ (c : Nat) (u : Tok), cs[j]? = some c ∧ v = Value.str ⟨#[c]⟩ u) → Vals (cs.map fun c => V.str ⟨#[c]⟩) its
  | [], [], _, _ => .nil
  | [], _ :: _, h, _ => by cases h
  | _ :: _, [], h, _ => by cases h
  | c :: cs, v :: vs, h, k => by
    obtain ⟨c', u, e1, e2⟩ := k 0 v rfl
    cases e1
    subst e2
    exact .cons ⟨_, rfl⟩ (vals_signs cs vs (by simpa using h) fun j v' hv => k (j + 1) v' hv)
/-- list(text) -/
theorem call_list_ofS (hcalm : X.calm = true) : CallR X (.type "list") (fun xs H Q => ∃ z : Str, xs = [.str z] ∧ z.length ≤ 1000 ∧ ∀ l, H l = none → Q (.ref l) (upd H l (.lst ((chars z).map V.str)))) := by
  intro pins s σ H xs us Q I r h
  obtain ⟨z, rfl, hz, q⟩ := h
  obtain ⟨u, rfl, rx⟩ := vals1 r
  obtain ⟨t, rfl⟩ := rx
  have hz' : z.cps.size ≤ 1000 := hz
  refine call_list_str (I.ok.hd hcalm) z t (hn := Nat.le_trans hz' (by decide)) fun h' tk acc' c' kp e hacc => ?_
  have r' : Vals ((chars z).map V.str) acc'.toList := by
    rw [chars, List.map_map]
    refine vals_signs z.cps.toList acc'.toList (by rw [Array.length_toList, Array.length_toList]; exact hacc.1) fun j v hv => ?_
    obtain ⟨c, u, hc, ev⟩ := hacc.2 j v (by simpa using hv)
    exact ⟨c, u, by simpa using hc, ev⟩
  exact ⟨.ref s.heap.objs.size, _, I.laid (t' := tk) kp (Nat.le_refl _) (show ObjOk X.prog X.w _ h' _ (.lst ((chars z).map V.str)) from ⟨by rw [List.length_map, chars, List.length_map, Array.length_toList]; exact Nat.le_trans hz' (by decide), acc'.toList, c', r', e⟩), rfl, q _ (I.hok.fresh (Nat.le_refl _))⟩
end
end L2
namespace My
open PySem PySem.Spec PyProof.Rows L2
theorem DGs.ofS {S : Addr → Prop} {H : Hp} : ∀ {zs : List Str}, DGs S H (zs.map V.str) (zs.map PyData.str)
  | [] => .nil
  | z :: zs => .cons (.str z) DGs.ofS
theorem DG.lstU {S : Addr → Prop} {H : Hp} {v : V} {ds : List PyData} (h : DG S H v (.list ds)) : ∃ a xs, v = .ref a ∧ H a = some (.lst xs) ∧ ¬ S a ∧ DGs S H xs ds := by
  cases h with
  | lst h n hs => exact ⟨_, _, rfl, h, n, hs⟩
theorem new_nS {S : Addr → Prop} {H H' : Hp} {q : Addr} (hq : H' q = none) (s : Same H H') (dom : ∀ a, S a → H a ≠ none) : ¬ S q := fun z => dom _ z (by
  cases e : H q with
  | none => rfl
  | some u => rw [s _ _ e] at hq; cases hq)
theorem DGs.unstr {S : Addr → Prop} {H : Hp} : ∀ {zs : List Str} {vs : List V}, DGs S H vs (zs.map PyData.str) → vs = zs.map V.str
  | [], _, .nil => rfl
  | z :: zs, _, .cons a b => by cases a; rw [DGs.unstr b]; rfl
/-- z k times, sign by sign -/
def repT (z : Str) (k : Nat) : Str := ⟨(List.replicate k z.cps.toList).flatten.toArray⟩
theorem rep_eq (a : Array Nat) : ∀ (k : Nat) (b : Array Nat), ((List.replicate k a).foldl (· ++ ·) b) = b ++ (List.replicate k a.toList).flatten.toArray
  | 0, b => by simp
  | k + 1, b => by rw [List.replicate_succ, List.foldl_cons, rep_eq a k (b ++ a), List.replicate_succ, List.flatten_cons, List.append_toArray]; simp
section
variable {X : Cx} {ρ : Rho} {a b e o : Expr} {ds es : List PyData} {pos p apos : Pos} {k : Nat} {x : Str}
theorem d_catL (h : ED X ρ a (.list ds)) (h2 : ED X ρ b (.list es)) (l : ds.length + es.length ≤ 1000) : ED X ρ (.BinOp a .Add b pos) (.list (ds ++ es)) := fun S σ H Q sl q => by
  refine e_cat (h S σ H _ sl fun v1 H1 s1 g1 => h2 S σ H1 _ (sl.same s1) fun v2 H2 s2 g2 => ?_)
  obtain ⟨o, xs, rfl, ho, no, gx⟩ := DG.lstU g1
  obtain ⟨m, zs, rfl, hm, nm, gz⟩ := DG.lstU g2
  have l1 := gx.length
  have l2 := gz.length
  exact ⟨o, m, xs, zs, rfl, rfl, s2 _ _ ho, hm, Nat.le_trans (show xs.length + zs.length ≤ 1000 by omega) (by decide), fun q' hq => q _ _ ((s1.trans s2).trans (same_new hq)) (.lst upd_same (new_nS hq (s1.trans s2) sl.dom) (((gx.same s2).append gz).same (same_new hq)))⟩
/-- list * k -/
theorem d_mulL (h : ED X ρ a (.list ds)) (hb : ED X ρ b (.int (k : Int))) (h1 : ds.length ≤ 1000) (h2 : k ≤ 1000) : ED X ρ (.BinOp a .Mult b pos) (.list (List.replicate k ds).flatten) := fun S σ H Q sl q => by
  refine e_op op_mulL (h S σ H _ sl fun v H1 s1 g1 => hb S σ H1 _ (sl.same s1) fun u H2 s2 g2 => ?_)
  cases g2
  obtain ⟨o, xs, rfl, ho, no, gx⟩ := DG.lstU g1
  have l1 := gx.length
  exact ⟨o, _, xs, rfl, rfl, .inl (.inl (s2 _ _ ho)), by omega, by omega, by omega, fun q' hq => q _ _ ((s1.trans s2).trans (same_new hq)) (.lst upd_same (new_nS hq (s1.trans s2) sl.dom) (((gx.same s2).flat k).same (same_new hq)))⟩
/-- text * k -/
theorem d_mulS2 {z : Str} (h : ED X ρ a (.str z)) (hb : ED X ρ b (.int (k : Int))) (h0 : 1 ≤ z.length) (h1 : z.length ≤ 100) (h2 : 2 ≤ k) (h3 : k ≤ 10000) : ED X ρ (.BinOp a .Mult b pos) (.str (repT z k)) := fun S σ H Q sl q =>
  e_op op_mulS2 (h S σ H _ sl fun v H1 s1 g1 => hb S σ H1 _ (sl.same s1) fun u H2 s2 g2 => by
    cases g1; cases g2
    refine ⟨z, _, rfl, rfl, by omega, by omega, h0, h1, ?_⟩
    have e : (⟨(List.replicate ((k : Int)).toNat z.cps).foldl (· ++ ·) #[]⟩ : Str) = repT z k := by
      rw [rep_eq, Int.toNat_natCast, Array.empty_append]; rfl
    rw [e]
    exact q _ _ (s1.trans s2) (.str _))
theorem d_addS {y z : Str} (h : ED X ρ a (.str y)) (hb : ED X ρ b (.str z)) (l : y.length + z.length ≤ 100000) : ED X ρ (.BinOp a .Add b pos) (.str (y ++ z)) := fun S σ H Q sl q =>
  e_addS (h S σ H _ sl fun v H1 s1 g1 => hb S σ H1 _ (sl.same s1) fun u H2 s2 g2 => by
    cases g1; cases g2
    exact ⟨y, z, rfl, rfl, Nat.le_trans l (by decide), q _ _ (s1.trans s2) (.str _)⟩)
theorem d_listS {z : Str} (hm : X.mg "list" = none) (h : ED X ρ e (.str z)) (l : z.length ≤ 1000) (hc : X.calm = true := by rfl) (hg : Gl X "list" := by rfl)
    (he : starEach [e] X.env = (false, eval e X.env) :: starEach [] X.env := by rfl) (hpl : (backTo pos (starEach [] X.env)).any (·.1) = false := by rfl) : ED X ρ (.Call (.Name "list" p) [e] [] pos) (.list ((chars z).map PyData.str)) := fun S σ H Q sl q =>
  e_callT (call_list_ofS hc) hm PyProof.Rows.boot_list (a_cons (h S σ H _ sl fun v H1 s1 g1 => by
    cases g1
    exact a_nil ⟨z, rfl, l, fun q' hq => q _ _ (s1.trans (same_new hq)) (.lst upd_same (new_nS hq s1 sl.dom) DGs.ofS)⟩) he) hg (by decide) (by decide) he hpl
/-- sep.join(list) -/
theorem d_joinL {sep : Str} {zs : List Str} (ho : ED X ρ o (.str sep)) (h : ED X ρ e (.list (zs.map PyData.str))) (l : (zs.map (·.length)).sum + zs.length * sep.length ≤ 100000)
    (hs : starEach [e] X.env = [(false, eval e X.env)] := by rfl) (hbase : attributeBase o "join" X.env (eval o X.env) = eval o X.env := by rfl) (hline : (apos.endLine == pos.line) = true := by rfl) :
    ED X ρ (.Call (.Attribute o "join" apos) [e] [] pos) (.str (Txt.join sep zs)) := fun S σ H Q sl q =>
  e_join (ho S σ H _ sl fun v H1 s1 g1 => by
    cases g1
    refine ⟨sep, rfl, h S σ H1 _ (sl.same s1) fun v H2 s2 g2 => ?_⟩
    obtain ⟨m, xs, rfl, hm, nm, gx⟩ := DG.lstU g2
    rw [gx.unstr] at hm
    exact ⟨m, zs, rfl, .inl (.inl (.inl hm)), Nat.le_trans l (by decide), q _ _ (s1.trans s2) (.str _)⟩) hs hbase hline
/-- text[:i] -/
theorem d_slSto {z : Str} {i : Int} {hi : Expr} {p2 : Pos} (h : ED X ρ e (.str z)) (h1 : ED X ρ hi (.int i)) (l : z.length ≤ 1000) : ED X ρ (.Subscript e (.Slice none (some hi) none p2) pos) (.str (cutS z none (some i))) := fun S σ H Q sl q =>
  e_slSto (h S σ H _ sl fun v H1 s1 g1 => h1 S σ H1 _ (sl.same s1) fun u H2 s2 g2 => by
    cases g1; cases g2
    exact ⟨i, z, rfl, rfl, Nat.le_trans l (by decide), q _ _ (s1.trans s2) (.str _)⟩)
end
end My
namespace My
open PySem PySem.Spec PyProof.Rows L2
/-- y + z, sign by sign -/
def catT (y z : Str) : Str := ⟨(y.cps.toList ++ z.cps.toList).toArray⟩
theorem catT_eq (y z : Str) : y ++ z = catT y z := by
  have e : (y ++ z).cps = (catT y z).cps := by
    show y.cps ++ z.cps = _
    unfold catT
    simp
  cases h : (y ++ z) with
  | mk a => rw [h] at e; show (⟨a⟩ : Str) = ⟨(catT y z).cps⟩; rw [← e]
theorem catT_len (y z : Str) : (catT y z).length = y.length + z.length := by
  show (y.cps.toList ++ z.cps.toList).toArray.size = y.cps.size + z.cps.size
  simp
theorem repT_len (z : Str) (k : Nat) : (repT z k).length = k * z.length := by
  show (List.replicate k z.cps.toList).flatten.toArray.size = _
  rw [List.size_toArray, PyProof.Rows.lm_len_rep_flat]
  rfl
theorem catT_sm {y z : Str} (hy : Sm y) (hz : Sm z) : Sm (catT y z) := fun c hc => by
  have h : c ∈ y.cps.toList ++ z.cps.toList := by simpa [catT] using hc
  rcases List.mem_append.mp h with h | h
  · exact hy c h
  · exact hz c h
theorem repT_sm {z : Str} {k : Nat} (hz : Sm z) : Sm (repT z k) := fun c hc => by
  have h : c ∈ (List.replicate k z.cps.toList).flatten := by simpa [repT] using hc
  obtain ⟨l, h1, h2⟩ := List.mem_flatten.mp h
  rw [(List.mem_replicate.mp h1).2] at h2
  exact hz c h2
theorem d_addC {X : Cx} {ρ : Rho} {a b : Expr} {pos : Pos} {y z : Str} (h : ED X ρ a (.str y)) (hb : ED X ρ b (.str z)) (l : y.length + z.length ≤ 100000) : ED X ρ (.BinOp a .Add b pos) (.str (catT y z)) := catT_eq y z ▸ d_addS h hb l
end My

namespace K13
open PySem PySem.Spec PyProof.Rows L2 My

/-! ### the pen -/
def top (i : Nat) : Stmt := PySem.Challenge.pw_boundonce_k13_texts_typed.main.body.getD i (.Pass ⟨0, 0, 0, 0⟩)
abbrev sPen : Stmt := top 49
abbrev sNext : Stmt := top 50
abbrev sDraw : Stmt := top 51
/-- the pen at p: the list (at L) of the script's first ints, how many were drawn, what is left of the last -/
def Pen (H : Hp) (p L : Addr) (n : Nat) : Prop := ∃ (ns : List Int) (i r : Int), H p = some (.lst [.ref L, .int i, .int r]) ∧ H L = some (.lst (ns.map V.int)) ∧ ns.length ≤ 100 ∧ 0 ≤ i ∧ i ≤ n ∧ L ≠ p
theorem Pen.mono {H : Hp} {p L : Addr} {n m : Nat} (h : Pen H p L n) (l : n ≤ m) : Pen H p L m := by
  obtain ⟨ns, i, r, h1, h2, h3, h4, h5, h6⟩ := h
  exact ⟨ns, i, r, h1, h2, h3, h4, by omega, h6⟩
theorem Pen.at {H H' : Hp} {p L : Addr} {n : Nat} (h : Pen H p L n) (e1 : H' p = H p) (e2 : H' L = H L) : Pen H' p L n := by
  obtain ⟨ns, i, r, h1, h2, h3⟩ := h
  exact ⟨ns, i, r, e1.trans h1, e2.trans h2, h3⟩
theorem Pen.same {H H' : Hp} {p L : Addr} {n : Nat} (h : Pen H p L n) (e : Same H H') : Pen H' p L n := by
  obtain ⟨ns, i, r, h1, h2, h3⟩ := h
  exact ⟨ns, i, r, e _ _ h1, e _ _ h2, h3⟩
theorem Pen.p {H : Hp} {p L : Addr} {n : Nat} (h : Pen H p L n) : ∃ xs, H p = some (.lst xs) := by
  obtain ⟨ns, i, r, h1, _⟩ := h
  exact ⟨_, h1⟩
theorem Pen.l {H : Hp} {p L : Addr} {n : Nat} (h : Pen H p L n) : ∃ xs, H L = some (.lst xs) := by
  obtain ⟨ns, i, r, _, h1, _⟩ := h
  exact ⟨_, h1⟩
/-- an object that is written and is not the pen's -/
theorem Pen.upd {H : Hp} {p L q : Addr} {n : Nat} {o : HO} (h : Pen H p L n) (h1 : q ≠ p) (h2 : q ≠ L) : Pen (upd H q o) p L n := h.at (upd_ne h1.symm) (upd_ne h2.symm)
theorem Pen.newP {H : Hp} {p L q : Addr} {n : Nat} (h : Pen H p L n) (hq : H q = none) : q ≠ p := fun e => by obtain ⟨xs, h1⟩ := h.p; rw [e, h1] at hq; cases hq
theorem Pen.newL {H : Hp} {p L q : Addr} {n : Nat} (h : Pen H p L n) (hq : H q = none) : q ≠ L := fun e => by obtain ⟨xs, h1⟩ := h.l; rw [e, h1] at hq; cases hq
theorem Pen.tups {H H' : Hp} {p L : Addr} {n : Nat} (h : Pen H p L n) (b : But p H H') : Tup H H' := by obtain ⟨xs, h1⟩ := h.p; exact b.tups h1
theorem cut_len (ns : List Int) (k : Int) : ∃ ms : List Int, cutV (ns.map V.int) none (some k) = ms.map V.int ∧ ms.length ≤ ns.length := by
  refine ⟨(ns.drop (HT.sIx (ns.map V.int).length 0 none)).take (HT.sIx (ns.map V.int).length (ns.map V.int).length (some k) - HT.sIx (ns.map V.int).length 0 none), ?_, ?_⟩
  · unfold cutV
    rw [← List.map_drop, ← List.map_take]
  · rw [List.length_take, List.length_drop]
    omega
/-- what the top leaves of the built-in names -/
structure Bl (mg : Str → Option Value) : Prop where
  list : mg "list" = none
  len : mg "len" = none
  int : mg "int" = none
def spPen (K : PySem.W.Frag) : Sp := fun vs H Q _ => ∃ (a : Addr) (ns : List Int), vs = [.ref a] ∧ SqL K H a (ns.map V.int) ∧ ns.length ≤ 63 ∧ ∀ p L H', Same H H' → H p = none → H L = none → Pen H' p L 0 → Q (.ref p) H'
def spNext : Sp := fun vs H Q _ => ∃ (p L : Addr) (n : Nat), vs = [.ref p] ∧ Pen H p L n ∧ n < 2 ^ 40 ∧ ∀ (z : Int) H', But p H H' → Pen H' p L (n + 1) → Q (.int z) H'
def spDraw : Sp := fun vs H Q _ => ∃ (p L : Addr) (n : Nat) (u : Int), vs = [.ref p, .int u] ∧ Pen H p L n ∧ n < 2 ^ 40 ∧ 0 < u ∧ u < 1073741824 ∧ ∀ (d : Nat) H', But p H H' → Pen H' p L (n + 1) → (d : Int) < u → Q (.int d) H'
section
variable {P : Program} {w : World} {K : PySem.W.Frag} {mg : Str → Option Value} {base : Heap} {f fd : _}
theorem scPen : FnScope ["_law_script"] ["_law_script"] (defScope sPen) := ⟨rfl, rfl, rfl, by decide +kernel, rfl, by decide +kernel, by decide +kernel⟩
theorem ok_pen {f : Addr} {fd : FuncData} (F : Fun K "_law_pen" "_law_pen" sPen f fd) (G : Bl mg) : FnOk P w K mg base CX0 1 f fd ["_law_script"] (spPen K) := by
  refine Fun.okW F scPen (fun vs H Q E h => by obtain ⟨a, ns, rfl, _⟩ := h; rfl) (fun cdv B out s H vs Q E hr h => ?_)
  obtain ⟨a, ns, rfl, hS, hl, q⟩ := h
  obtain ⟨ms, em, lm⟩ := cut_len ns 60
  refine l_one (s_ret (e_lst (a_cons (e_callT call_list_of G.list PyProof.Rows.boot_list (a_cons (e_slL (e_var 0 rfl (e_int ⟨60, a, _, rfl, rfl, hS, fun c hc => ?_⟩))))))))
  refine a_nil ⟨c, _, rfl, .inl (.inl (.inl upd_same)), fun L hL => ?_⟩
  refine a_cons (e_int (a_cons (e_int (a_nil ⟨by show 3 ≤ sizeLine; decide, fun p hp => ?_⟩))))
  refine q p L _ ((same_new hc).trans ((same_new hL).trans (same_new hp))) ((same_new hc).free ((same_new hL).free hp)) ((same_new hc).free hL) ?_
  exact ⟨ms, 0, 0, upd_same, by rw [upd_ne (ne_of_none upd_same hp), upd_same, em], by omega, by decide, by decide, ne_of_none upd_same hp⟩
theorem scNext : FnScope ["_law_pen_here", "_law_index", "_law_cell_here", "_law_some", "_law_more", "_law_top"] ["_law_pen_here"] (defScope sNext) := ⟨rfl, rfl, rfl, by decide +kernel, rfl, by decide +kernel, by decide +kernel⟩
theorem at0 {α : Type} (a b c : α) : atI [a, b, c] 0 = some a := rfl
theorem at1 {α : Type} (a b c : α) : atI [a, b, c] 1 = some b := rfl
theorem at2 {α : Type} (a b c : α) : atI [a, b, c] 2 = some c := rfl
theorem dp_int {H : Hp} : ∀ ns : List Int, DpAll K H (ns.map V.int) (ns.map PyData.int)
  | [] => .nil
  | n :: ns => .cons (.int n) (dp_int ns)
theorem shaped_ints : ∀ ns : List Int, SeqAt.shaped (.list (ns.map PyData.int)) = true := fun ns => by
  have h1 : ∀ ms : List Int, PyData.canLayAll0 (ms.map PyData.int) = true := fun ms => by
    induction ms with
    | nil => rfl
    | cons m ms ih => show (true && PyData.canLayAll0 (ms.map PyData.int)) = true; rw [ih]; rfl
  have h2 : ∀ ms : List Int, PyData.depthAll (ms.map PyData.int) = 0 := fun ms => by
    induction ms with
    | nil => rfl
    | cons m ms ih => show max 0 (PyData.depthAll (ms.map PyData.int)) = 0; rw [ih]; rfl
  show (PyData.canLayAll0 (ns.map PyData.int) && decide (PyData.depthAll (ns.map PyData.int) + 1 ≤ 64)) = true
  rw [h1, h2]
  rfl
theorem ok_next {f : Addr} {fd : FuncData} (F : Fun K "_law_next" "_law_next" sNext f fd) (G : Bl mg) : FnOk P w K mg base CX0 1 f fd ["_law_pen_here"] spNext := by
  refine Fun.okW F scNext (fun vs H Q E h => by obtain ⟨a, b, n, rfl, _⟩ := h; rfl) (fun cdv B out s H vs Q E hr h => ?_)
  obtain ⟨p, L, n, rfl, ⟨ns, i, r, h1, h2, h3, h4, h5, h6⟩, hn, q⟩ := h
  -- index = pen[1]; pen[1] = index + 1
  refine l_cons (s_set 1 (e_ixL (e_var 0 rfl (e_int ⟨p, _, 1, _, rfl, rfl, .inl (.inl h1), at1 _ _ _, ?_⟩))) scNext.nd)
  refine l_cons (s_setL (e_addI (e_var 1 rfl (e_int ⟨i, 1, rfl, rfl, e_var 0 rfl (e_int ⟨p, _, 1, 1, rfl, rfl, h1, rfl, ?_⟩)⟩))))
  -- cell = index * 1087 + 73
  refine l_cons (s_set 2 (e_addI (e_mulI (e_var 1 rfl (e_int ⟨i, 1087, rfl, rfl, .inr (by decide), e_int ⟨_, 73, rfl, rfl, ?_⟩⟩)))) scNext.nd)
  have g1 : (upd H p (.lst [.ref L, .int (i + 1), .int r])) p = some (.lst [.ref L, .int (i + 1), .int r]) := upd_same
  have g2 : (upd H p (.lst [.ref L, .int (i + 1), .int r])) L = some (.lst (ns.map V.int)) := by rw [upd_ne h6]; exact h2
  have hb : But p H (upd H p (.lst [.ref L, .int (i + 1), .int r])) := But.upd
  show WL _ _ _ [some (.ref p), some (.int i), some (.int (i * 1087 + 73)), none, none, none] (upd H p (.lst [.ref L, .int (i + 1), .int r]))
  generalize i * 1087 + 73 = cell0
  generalize (upd H p (.lst [.ref L, .int (i + 1), .int r])) = H1 at g1 g2 hb
  have hi64 : -(2 ^ 64) < i ∧ i < 2 ^ 64 := ⟨by omega, by omega⟩
  -- if pen[0] != []: cell = pen[0][int(index) % len(pen[0])]
  refine l_cons (WS.cut (P := fun σ H2 => ∃ cell : Int, σ = [some (.ref p), some (.int i), some (.int cell), none, none, none] ∧ Same H1 H2) (s_if (t_neD hr.units (e_ixL (e_var 0 rfl (e_int ⟨p, _, 0, _, rfl, rfl, .inl (.inl g1), at0 _ _ _, e_lst (a_nil ⟨Nat.zero_le _, fun c hc => ?_⟩)⟩))))) ?_)
  · have s1 : Same H1 (upd H1 c (.lst [])) := same_new hc
    refine ⟨.list (ns.map PyData.int), .list [], .lst (.inl (.inl (s1 _ _ g2))) (dp_int ns), .lst (.inl (.inl upd_same)) .nil, shaped_ints ns, rfl, fun e => ?_, fun _ => l_nil ⟨cell0, rfl, s1⟩⟩
    have hpos : 0 < ns.length := by
      cases ns with
      | nil => cases e
      | cons x xs => exact Nat.succ_pos _
    refine l_one (s_set 2 (e_ixL (e_ixL (e_var 0 rfl (e_int ⟨p, _, 0, _, rfl, rfl, .inl (.inl (s1 _ _ g1)), at0 _ _ _, e_modI (e_intI G.int (e_var 1 rfl (.inl ⟨i, rfl, e_len G.len (e_ixL (e_var 0 rfl (e_int ⟨p, _, 0, _, rfl, rfl, .inl (.inl (s1 _ _ g1)), at0 _ _ _, L, _, rfl, .inl (.inl (.inl (s1 _ _ g2))), i, _, rfl, rfl, ?_, ?_⟩)))⟩)))⟩)))) scNext.nd)
    · rw [List.length_map]
      omega
    · have e1 : i % ((ns.map V.int).length : Int) = ((i % (ns.length : Int)).toNat : Nat) := by
        rw [List.length_map]
        have := Int.emod_nonneg i (show (ns.length : Int) ≠ 0 by omega)
        omega
      have e2 : (i % (ns.length : Int)).toNat < ns.length := by
        have := Int.emod_lt_of_pos i (show (0 : Int) < (ns.length : Int) by omega)
        have := Int.emod_nonneg i (show (ns.length : Int) ≠ 0 by omega)
        omega
      refine ⟨L, ns.map V.int, _, .int (ns[(i % (ns.length : Int)).toNat]), rfl, rfl, .inl (.inl (s1 _ _ g2)), ?_, ⟨_, rfl, s1⟩⟩
      rw [e1]
      exact atI_nat (by rw [List.getElem?_map, List.getElem?_eq_getElem e2]; rfl)
  rintro σ H2 ⟨cell, rfl, s2⟩
  have k1 := s2 _ _ g1
  have k2 := s2 _ _ g2
  have fin : ∀ (z : Int) H3, Same H2 H3 → Q (.int z) H3 := fun z H3 s3 => q z H3 (hb.trans (But.of (s2.trans s3))) ⟨ns, i + 1, r, s3 _ _ k1, s3 _ _ k2, h3, by omega, by omega, h6⟩
  -- if index < len(pen[0]) and cell >= 10 ** 18: return cell
  refine l_cons (WS.cut (P := fun σ H3 => σ = [some (.ref p), some (.int i), some (.int cell), none, none, none] ∧ H3 = H2) (s_if (t_w (w_and (t_lt (e_var 1 rfl (e_len G.len (e_ixL (e_var 0 rfl (e_int ⟨p, _, 0, _, rfl, rfl, .inl (.inl k1), at0 _ _ _, L, _, rfl, .inl (.inl (.inl k2)), i, _, rfl, rfl, fun _ => w_and1 (t_ge (e_var 2 rfl (e_op op_pow (e_int (e_int ⟨10, 18, rfl, rfl, ⟨by decide, by decide, by decide⟩, cell, _, rfl, rfl, ?_⟩))))), fun _ => ?_⟩))))))))) ?_)
  case refine_2 => exact ⟨fun e => Bool.noConfusion e, fun _ => l_nil ⟨rfl, rfl⟩⟩
  case refine_1 => exact ⟨fun _ => l_one (s_ret (e_var 2 rfl (fin _ _ (Same.refl _)))), fun _ => l_nil ⟨rfl, rfl⟩⟩
  rintro σ H3 ⟨rfl, rfl⟩
  refine l_cons (s_set 3 (e_modI (e_intI G.int (e_addI (e_addI (e_modI (e_intI G.int (e_var 2 rfl (.inl ⟨cell, rfl, e_int ⟨_, 2147483587, rfl, rfl, by decide, e_mulI (e_var 1 rfl (e_int ⟨i, 30133, rfl, rfl, .inr (by decide), _, _, rfl, rfl, e_int ⟨_, 101, rfl, rfl, .inl ⟨_, rfl, e_int ⟨_, 2147483587, rfl, rfl, by decide, ?_⟩⟩⟩⟩))⟩⟩)))))))) scNext.nd)
  generalize hx : (cell % 2147483587 + i * 30133 + 101) % 2147483587 = x
  have x0 : 0 ≤ x := by rw [← hx]; exact Int.emod_nonneg _ (by decide)
  have x1 : x < 2147483587 := by rw [← hx]; exact Int.emod_lt_of_pos _ (by decide)
  refine l_cons (s_set 4 (e_modI (e_intI G.int (e_addI (e_addI (e_mulI (e_var 3 rfl (e_var 3 rfl ⟨x, x, rfl, rfl, .inl ⟨by omega, by omega⟩, e_mulI (e_var 1 rfl (e_int ⟨i, 70111, rfl, rfl, .inr (by decide), _, _, rfl, rfl, e_int ⟨_, 73, rfl, rfl, .inl ⟨_, rfl, e_int ⟨_, 2147483563, rfl, rfl, by decide, ?_⟩⟩⟩⟩))⟩))))))) scNext.nd)
  generalize hy : (x * x + i * 70111 + 73) % 2147483563 = y
  have y0 : 0 ≤ y := by rw [← hy]; exact Int.emod_nonneg _ (by decide)
  have y1 : y < 2147483563 := by rw [← hy]; exact Int.emod_lt_of_pos _ (by decide)
  refine l_cons (s_set 5 (e_modI (e_intI G.int (e_addI (e_addI (e_mulI (e_var 4 rfl (e_var 4 rfl ⟨y, y, rfl, rfl, .inl ⟨by omega, by omega⟩, e_var 3 rfl ⟨_, x, rfl, rfl, e_mulI (e_mulI (e_var 1 rfl (e_var 1 rfl ⟨i, i, rfl, rfl, .inl hi64, e_int ⟨_, 47, rfl, rfl, .inr (by decide), _, _, rfl, rfl, .inl ⟨_, rfl, e_int ⟨_, 2147483549, rfl, rfl, by decide, ?_⟩⟩⟩⟩)))⟩⟩))))))) scNext.nd)
  generalize hz : (y * y + x + i * i * 47) % 2147483549 = z
  refine l_one (s_ret (e_addI (e_mulI (e_addI (e_mulI (e_var 5 rfl (e_int ⟨z, 2147483587, rfl, rfl, .inr (by decide), e_var 4 rfl ⟨_, y, rfl, rfl, e_int ⟨_, 2147483563, rfl, rfl, .inr (by decide), e_var 3 rfl ⟨_, x, rfl, rfl, ?_⟩⟩⟩⟩)))))))
  exact fin _ _ (Same.refl _)
theorem scDraw : FnScope ["_law_pen_here", "_law_under", "_law_digit"] ["_law_pen_here", "_law_under"] (defScope sDraw) := ⟨rfl, rfl, rfl, by decide +kernel, rfl, by decide +kernel, by decide +kernel⟩
theorem ok_draw {f : Addr} {fd : FuncData} (F : Fun K "_law_draw" "_law_draw" sDraw f fd) (G : Bl mg) (N : CalN P w K mg base 1 "_law_next" spNext) : FnOk P w K mg base CX0 2 f fd ["_law_pen_here", "_law_under"] spDraw := by
  refine Fun.okW F scDraw (fun vs H Q E h => by obtain ⟨a, b, n, u, rfl, _⟩ := h; rfl) (fun cdv B out s H vs Q E hr h => ?_)
  obtain ⟨p, L, n, u, rfl, Pn, hn, u0, u1, q⟩ := h
  obtain ⟨ns, i, r, h1, h2, h3, h4, h5, h6⟩ := id Pn
  -- if pen[2] < under: pen[2] = next(pen)
  refine l_cons (WS.cut (P := fun σ H2 => σ = [some (.ref p), some (.int u), none] ∧ Pen H2 p L (n + 1) ∧ But p H H2) (s_if (t_lt (e_ixL (e_var 0 rfl (e_int ⟨p, _, 2, _, rfl, rfl, .inl (.inl h1), at2 _ _ _, e_var 1 rfl ⟨r, u, rfl, rfl, fun _ => ?_, fun _ => l_nil ⟨rfl, Pn.mono (Nat.le_succ _), But.refl _ _⟩⟩⟩))))) ?_)
  · refine l_one (s_setL (e_c N hr (by decide) (a_cons (e_var 0 rfl (a_nil ⟨p, L, n, rfl, Pn, hn, fun z H2 b2 P2 => ?_⟩)))))
    obtain ⟨ns', i', r', g1, g2, g3, g4, g5, g6⟩ := P2
    refine e_var 0 rfl (e_int ⟨p, _, 2, 2, rfl, rfl, g1, rfl, rfl, ⟨ns', i', z, upd_same, by rw [upd_ne g6]; exact g2, g3, g4, g5, g6⟩, b2.trans But.upd⟩)
  rintro σ H2 ⟨rfl, P2, b2⟩
  obtain ⟨ns', i', r', g1, g2, g3, g4, g5, g6⟩ := P2
  refine l_cons (s_set 2 (e_modI (e_intI G.int (e_ixL (e_var 0 rfl (e_int ⟨p, _, 2, _, rfl, rfl, .inl (.inl g1), at2 _ _ _, .inl ⟨r', rfl, e_var 1 rfl ⟨r', u, rfl, rfl, u0, ?_⟩⟩⟩))))) scDraw.nd)
  refine l_cons (s_setL (e_divI (e_ixL (e_var 0 rfl (e_int ⟨p, _, 2, _, rfl, rfl, .inl (.inl g1), at2 _ _ _, e_var 1 rfl ⟨r', u, rfl, rfl, ⟨u0, u1⟩, e_var 0 rfl (e_int ⟨p, _, 2, 2, rfl, rfl, g1, rfl, ?_⟩)⟩⟩)))))
  have e0 := Int.emod_nonneg r' (show u ≠ 0 by omega)
  have e1 := Int.emod_lt_of_pos r' u0
  refine l_one (s_ret (e_var 2 rfl ?_))
  have en : r' % u = ((r' % u).toNat : Nat) := by omega
  show Q (.int (r' % u)) _
  rw [en]
  exact q _ _ (b2.trans But.upd) ⟨ns', i', r' / u, upd_same, by rw [upd_ne g6]; exact g2, g3, g4, g5, g6⟩ (by omega)
end
end K13

namespace My
open PySem PySem.Spec PyProof.Rows L2
/-! ### a dict of the top with text keys -/
theorem keyZ_str {e : DictEntry} {x : Str} (h : keyZ e = some x) : ∃ t, e.key = .str x t := by
  unfold keyZ at h
  split at h
  · rename_i y t q
    cases h
    exact ⟨t, q⟩
  · cases h
theorem find_keys (z : Str) : ∀ (l : List DictEntry) (zs : List Str), l.map keyZ = zs.map some → (l.find? (·.key.isStr z)).isSome = decide (z ∈ zs) ∧ l.any (·.refKey) = false
  | [], [], _ => ⟨rfl, rfl⟩
  | [], _ :: _, h => by cases h
  | _ :: _, [], h => by cases h
  | e :: l, x :: zs, h => by
    have h' : keyZ e :: l.map keyZ = some x :: zs.map some := h
    injection h' with h1 h2
    obtain ⟨i1, i2⟩ := find_keys z l zs h2
    obtain ⟨t, q⟩ := keyZ_str h1
    constructor
    · by_cases hx : x = z
      · have b : e.key.isStr z = true := by rw [q]; exact beq_iff_eq.mpr hx
        rw [List.find?_cons_of_pos (p := fun d : DictEntry => d.key.isStr z) b]
        exact (decide_eq_true (by rw [hx]; exact List.mem_cons_self)).symm
      · have b : ¬ e.key.isStr z = true := by rw [q]; exact fun c => hx (beq_iff_eq.mp c)
        rw [List.find?_cons_of_neg (p := fun d : DictEntry => d.key.isStr z) b, i1]
        apply Bool.eq_iff_iff.mpr
        rw [decide_eq_true_eq, decide_eq_true_eq, List.mem_cons]
        exact ⟨.inr, fun c => c.elim (fun c => absurd c.symm hx) id⟩
    · rw [List.any_cons, i2, Bool.or_false]
      unfold DictEntry.refKey
      rw [q]
theorem KSt.ns {w : World} {K : PySem.W.Frag} {a : Addr} {zs : List Str} (h : KSt w K a zs) (z : Str) : ∃ es n, KDict K w a es n ∧ ∃ r, PySem.W.nsIn K a z = some r ∧ r.isSome = decide (z ∈ zs) := by
  obtain ⟨es, n, D, hk⟩ := h.ex
  obtain ⟨f1, f2⟩ := find_keys z es.toList zs hk
  refine ⟨es, n, D, ?_⟩
  unfold PySem.W.nsIn
  rw [D.at_]
  dsimp only
  cases q : es.toList.find? (·.key.isStr z) with
  | none =>
    rw [q] at f1
    exact ⟨none, by rw [f2]; rfl, f1⟩
  | some e =>
    rw [q] at f1
    exact ⟨some e.val, rfl, f1⟩
section
variable {X : Cx} {ρ : Rho} {a a2 b c e o : Expr} {es rest : List Expr} {d d1 d2 : PyData} {ds ds2 : List PyData} {pos apos p p2 p3 pc pt : Pos} {x y : Str} {k m : Bool}
/-- x not in R, x in R: a dict of the top -/
theorem d_notInK {z : Str} {zs : List Str} (hR : ∃ aR, X.mg x = some (.ref aR) ∧ KSt X.w X.K aR zs) (h : ED X ρ a (.str z)) (hg : Gl X x := by rfl) (hd : (x == ("__debug__" : Str)) = false := by decide) : ED X ρ (.Compare a [.NotIn] [.Name x p] pos) (.bool (!decide (z ∈ zs))) := fun S σ H Q sl q => by
  obtain ⟨aR, hm, hK⟩ := hR
  obtain ⟨es, n, D, r, hr, hs⟩ := hK.ns z
  refine e_cmp (op_notIn_kd D) (h S σ H _ sl fun v H1 s1 g1 => ?_) (by first | exact nomark _ | rfl)
  cases g1
  exact e_glob (v := .ref aR) hm rfl ⟨z, r, rfl, rfl, hr, by rw [hs]; exact q _ H1 s1 (.bl _)⟩ hg hd
theorem td_inK {z : Str} {zs : List Str} (hR : ∃ aR, X.mg x = some (.ref aR) ∧ KSt X.w X.K aR zs) (h : ED X ρ a (.str z)) (hg : Gl X x := by rfl) (hd : (x == ("__debug__" : Str)) = false := by decide) : TD X ρ (.Compare a [.In] [.Name x p] pos) (decide (z ∈ zs)) := fun S σ H Q sl q => by
  obtain ⟨aR, hm, hK⟩ := hR
  obtain ⟨es, n, D, r, hr, hs⟩ := hK.ns z
  refine t_cmp (op_in_kd D) (h S σ H _ sl fun v H1 s1 g1 => ?_) (by first | exact nomark _ | rfl)
  cases g1
  exact e_glob (v := .ref aR) hm rfl ⟨z, r, rfl, rfl, hr, _, rfl, by rw [hs]; exact q H1 s1⟩ hg hd
theorem td_notInK {z : Str} {zs : List Str} (hR : ∃ aR, X.mg x = some (.ref aR) ∧ KSt X.w X.K aR zs) (h : ED X ρ a (.str z)) (hg : Gl X x := by rfl) (hd : (x == ("__debug__" : Str)) = false := by decide) : TD X ρ (.Compare a [.NotIn] [.Name x p] pos) (!decide (z ∈ zs)) := fun S σ H Q sl q => by
  obtain ⟨aR, hm, hK⟩ := hR
  obtain ⟨es, n, D, r, hr, hs⟩ := hK.ns z
  refine t_cmp (op_notIn_kd D) (h S σ H _ sl fun v H1 s1 g1 => ?_) (by first | exact nomark _ | rfl)
  cases g1
  exact e_glob (v := .ref aR) hm rfl ⟨z, r, rfl, rfl, hr, _, rfl, by rw [hs]; exact q H1 s1⟩ hg hd
/-! texts: isascii, isalpha, islower; <= -/
theorem d_isascii {z : Str} (h : ED X ρ o (.str z)) (hbase : attributeBase o "isascii" X.env (eval o X.env) = eval o X.env := by rfl) (hline : (apos.endLine == pos.line) = true := by rfl) : ED X ρ (.Call (.Attribute o "isascii" apos) [] [] pos) (.bool (Txt.isascii z)) := fun S σ H Q sl q =>
  e_isascii (h S σ H _ sl fun v H1 s1 g1 => by cases g1; exact ⟨z, rfl, q _ H1 s1 (.bl _)⟩) hbase hline
theorem d_isalpha {z : Str} (h : ED X ρ o (.str z)) (hbase : attributeBase o "isalpha" X.env (eval o X.env) = eval o X.env := by rfl) (hline : (apos.endLine == pos.line) = true := by rfl) : ED X ρ (.Call (.Attribute o "isalpha" apos) [] [] pos) (.bool (Txt.isalpha z)) := fun S σ H Q sl q =>
  e_isalpha (h S σ H _ sl fun v H1 s1 g1 => by cases g1; exact ⟨z, rfl, q _ H1 s1 (.bl _)⟩) hbase hline
theorem d_islower {z : Str} (h : ED X ρ o (.str z)) (hbase : attributeBase o "islower" X.env (eval o X.env) = eval o X.env := by rfl) (hline : (apos.endLine == pos.line) = true := by rfl) : ED X ρ (.Call (.Attribute o "islower" apos) [] [] pos) (.bool (Txt.islower z)) := fun S σ H Q sl q =>
  e_islower (h S σ H _ sl fun v H1 s1 g1 => by cases g1; exact ⟨z, rfl, q _ H1 s1 (.bl _)⟩) hbase hline
theorem o_leS : OpR X (compareOp .LtE) (rP fun d e b => ∃ y z : Str, d = .str y ∧ e = .str z ∧ b = !decide (lt z y)) := fun pins s σ H x y v u Q I rx ry ⟨S, d, e, b, g1, g2, ⟨i, j, e1, e2, e3⟩, q⟩ => by
  subst e1 e2 e3
  cases g1; cases g2
  exact op_le_str pins s σ H _ _ v u Q I rx ry ⟨i, j, rfl, rfl, q⟩
/-- not isinstance(x, str) or len(x) > M -/
theorem wd_strM {M : Str} (G : X.mg "isinstance" = none ∧ X.mg "str" = none ∧ X.mg "len" = none) (hM : ∃ t, X.mg M = some (.int 8 t)) (h : ED X ρ a d) (hB : ED X ρ a2 d) (ok : okS d = true) (hg : Gl X "isinstance" := by rfl) (hgT : Gl X "str" := by rfl) (hgl : Gl X "len" := by rfl) (hgM : Gl X M := by rfl) (hdM : (M == ("__debug__" : Str)) = false := by decide) {q1 q2 q3 q4 q5 q6 q7 q8 : Pos}
    (he : starEach [a, .Name "str" q2] X.env = (false, eval a X.env) :: starEach [.Name "str" q2] X.env := by rfl) (he2 : starEach [a2] X.env = (false, eval a2 X.env) :: starEach [] X.env := by rfl)
    (hi1 : ∀ whole, isTrue (.Call (.Name "isinstance" q1) [a, .Name "str" q2] [] q3) X.env whole = (do let v ← whole; standAt q3; holding [v] (truthy v)) := by intro _; rfl) :
    WD X ρ (.BoolOp .Or [.UnaryOp .Not (.Call (.Name "isinstance" q1) [a, .Name "str" q2] [] q3) q4, .Compare (.Call (.Name "len" q5) [a2] [] q6) [.Gt] [.Name M q7] q8] pos) (!(isStr d && decide ((My.strOf d).length ≤ 8))) := by
  have e : (!(isStr d && decide ((My.strOf d).length ≤ 8))) = (!isStr d || decide ((8 : Int) < ((My.strOf d).length : Int))) := by
    have e1 : decide ((8 : Int) < ((My.strOf d).length : Int)) = !decide ((My.strOf d).length ≤ 8) := by
      apply Bool.eq_iff_iff.mpr
      rw [decide_eq_true_eq, Bool.not_eq_true', decide_eq_false_iff_not]
      omega
    rw [e1]
    cases isStr d <;> rfl
  rw [e]
  refine wd_or (td_not (td_val (d_isStr G.1 G.2.1 h hg hgT he) hi1)) fun ht => wd_or1 ?_
  have hs := nb' ht
  have hz : (My.strOf d).length ≤ sizeLine := str_line (by rw [← isStr_eq hs]; exact ok)
  exact td_cmp o_gt (d_lenS G.2.2 hz (hB.cast (isStr_eq hs)) hgl he2) (d_gint hM hgM hdM) ⟨_, _, rfl, rfl, rfl⟩ (by first | exact nomark _ | rfl)
end
/-! ### ascending, from a text on -/
def ascF : Str → List Str → Bool
  | _, [] => true
  | x, y :: r => !(!decide (lt x y)) && ascF y r
theorem ascF_cons (x : Str) : ∀ zs : List Str, ascF x zs = ascS (x :: zs)
  | [] => rfl
  | y :: r => by
    show (!(!decide (lt x y)) && ascF y r) = (decide (lt x y) && ascS (y :: r))
    rw [Bool.not_not, ascF_cons y r]
theorem empty_lt {z : Str} (h : 1 ≤ z.length) : lt Str.empty z := by
  have hl : 1 ≤ z.cps.toList.length := h
  show ([] : List Nat) < z.cps.toList
  cases e : z.cps.toList with
  | nil => rw [e] at hl; simp at hl
  | cons c r => exact List.nil_lt_cons c r
theorem ascF_empty : ∀ {zs : List Str}, (∀ z ∈ zs, 1 ≤ z.length) → ascF Str.empty zs = ascS zs
  | [], _ => rfl
  | z :: r, h => by
    show (!(!decide (lt Str.empty z)) && ascF z r) = _
    rw [decide_eq_true (empty_lt (h z List.mem_cons_self)), ascF_cons]
    rfl
theorem dic_mk {w : World} {K : PySem.W.Frag} {n : Str} {zs : List Str} {a : Addr} {oc : Value} {od : Option Addr} {es : Array DictEntry} {m : Nat} {osl : Array (Option Value)} (e : PySem.W.nsIn K mainGlobals n = some (some (.ref a))) (l : K.lookup a = some ⟨oc, od, .dict es m, osl⟩)
    (h1 : oc = .type "dict") (h2 : od = none) (h3 : osl = #[]) (hk : PySem.W.KeysLit w.params es.toList) (hl : (a == sysModules) = false) (hz : es.toList.map keyZ = zs.map some) : ∃ a, PySem.W.nsIn K mainGlobals n = some (some (.ref a)) ∧ KSt w K a zs := by
  subst h1 h2 h3
  exact ⟨a, e, ⟨⟨es, m, ⟨l, hk, hl⟩, hz⟩⟩⟩
/-! ### for x in a tuple: if not ..: return False; return True -/
section
variable {X : Cx} {ρ : Rho} {iter c : Expr} {ds : List PyData} {x : Str} {pos pt q1 q2 q3 q4 q5 : Pos} {j1 j2 : Nat}
theorem forD_all {j : Nat} {body : List Stmt} (g : PyData → Bool) (ρ : Rho) : ∀ (ds : List PyData) (ρ1 : Rho), (∀ d, ρ1.set j (some d) = ρ.set j (some d)) →
    (∀ d ∈ ds, g d = true → LD X (ρ.set j (some d)) body (.nx (ρ.set j (some d)))) → (∀ d ∈ ds, g d = false → LD X (ρ.set j (some d)) body (.ret (.bool false))) →
    (ds.all g = true → ∃ ρ2, ForD X j body ds ρ1 (.nx ρ2)) ∧ (ds.all g = false → ForD X j body ds ρ1 (.ret (.bool false)))
  | [], ρ1, _, _, _ => ⟨fun _ => ⟨ρ1, .done⟩, fun e => by cases e⟩
  | d :: ds, ρ1, h0, h1, h2 => by
    obtain ⟨i1, i2⟩ := forD_all g ρ ds (ρ.set j (some d)) (fun e => List.set_set ..) (fun e he => h1 e (List.mem_cons_of_mem _ he)) (fun e he => h2 e (List.mem_cons_of_mem _ he))
    rw [List.all_cons]
    cases hd : g d with
    | true =>
      rw [Bool.true_and]
      have hb := h1 d List.mem_cons_self hd
      rw [← h0 d] at hb
      refine ⟨fun e => ?_, fun e => ?_⟩
      · obtain ⟨ρ2, hf⟩ := i1 e
        rw [← h0 d] at hf
        exact ⟨ρ2, .next hb hf⟩
      · have hf := i2 e
        rw [← h0 d] at hf
        exact .next hb hf
    | false =>
      rw [Bool.false_and]
      have hb := h2 d List.mem_cons_self hd
      rw [← h0 d] at hb
      exact ⟨fun e => (by cases e), fun _ => .ret hb⟩
theorem ld_forAll (j : Nat) (g : PyData → Bool) (h : ED X ρ iter (.tuple ds)) (hb : ∀ d ∈ ds, TD X (ρ.set j (some d)) c (!g d)) (hg : PG X (.Name x pt) (gName j)) (hp : PassesOwn (model X.prog X.w) X.A X.env X.xe) (hc : X.calm = true := by rfl)
    (hs : ∀ x, foldedSetIterable iter X.env x = pure x := by intro _; rfl) :
    LD X ρ [.For (.Name x pt) iter [.If c [.Return (some (.Constant (.bool false) j1 q1)) q2] [] q3] [] pos, .Return (some (.Constant (.bool true) j2 q4)) q5] (.ret (.bool (ds.all g))) := by
  have step := forD_all (X := X) (j := j) (body := [.If c [.Return (some (.Constant (.bool false) j1 q1)) q2] [] q3]) g ρ ds ρ (fun _ => rfl) (fun d hd e => ?_) (fun d hd e => ?_)
  · cases hall : ds.all g with
    | false => exact ld_end (sd_forT j h (step.2 hall) hg hp hc hs)
    | true =>
      obtain ⟨ρ2, hf⟩ := step.1 hall
      exact ld_cons (sd_forT j h hf hg hp hc hs) (ld_end (sd_ret (d_bl true)))
  · have hb' := hb d hd
    rw [e] at hb'
    exact ld_cons (sd_if (k := false) hb' (fun e => by cases e) fun _ => ld_nil) ld_nil
  · have hb' := hb d hd
    rw [e] at hb'
    exact ld_end (sd_if (k := true) hb' (fun _ => ld_end (sd_ret (d_bl false))) fun e => by cases e)
end
end My

namespace K13
open PySem PySem.Spec PyProof.Rows L2 My
abbrev sTupOf : Stmt := top 4
abbrev sDiff : Stmt := top 5
abbrev sName : Stmt := top 11
abbrev sValue : Stmt := top 12
abbrev sValues : Stmt := top 13
abbrev sAsc : Stmt := top 14
abbrev sNN : Stmt := top 15
abbrev sColumn : Stmt := top 25
abbrev sCall : Stmt := top 26
abbrev sTold : Stmt := top 27
abbrev sSource : Stmt := top 28
abbrev sCond : Stmt := top 29
abbrev sStatementP : Stmt := top 24
section
variable {P : Program} {w : World} {K : PySem.W.Frag} {mg : Str → Option Value} {base : Heap}
theorem scTupOf : FnScope ["thing", "least", "most", "is_part", "part"] ["thing", "least", "most", "is_part"] (defScope sTupOf) := ⟨rfl, rfl, rfl, by decide +kernel, rfl, by decide +kernel, by decide +kernel⟩
theorem ok_tupOf {k : Nat} {f : Addr} {fd : FuncData} (F : Fun K "is_tuple_of" "is_tuple_of" sTupOf f fd) (G : Bf w K mg) : FnOk P w K mg base CX0 (k + 1) f fd ["thing", "least", "most", "is_part"] (spTO P w K mg base k) := by
  refine Fun.okW F scTupOf (fun vs H Q E h => by obtain ⟨a, b, c, d, e, g, i, rfl, _⟩ := h; rfl) (fun cdv B out s H vs Q E hr h => ?_)
  obtain ⟨S, v, d, lo, hi, g, φ, rfl, ⟨gd, ps, Fg, kg, bg⟩, hhi, hd, hok, q⟩ := h
  -- not a tuple
  refine l_cons (WS.cut (P := fun σ H2 => σ = [some v, some (.int lo), some (.int hi), some (.ref g), none] ∧ H2 = H ∧ ∃ ds, d = .tuple ds ∧ lo ≤ ds.length ∧ (ds.length : Int) ≤ hi) (s_if (t_w (w_or (t_not (t_val (e_isi G.isi G.tuple PyProof.Rows.boot_tuple (e_var 0 rfl ⟨tyD d, isTup d, hd.ty, kit_tup d, isTup d, rfl, fun e => ?_, fun e => ?_⟩)))))) ) ?_)
  · have nt : isTup d = false := by simpa using e
    refine ⟨fun _ => ?_, fun e => Bool.noConfusion e⟩
    have e2 : tupD lo hi φ d = false := by cases d <;> first | rfl | cases nt
    exact l_one (s_ret (e_bl (by have := q H (Same.refl _); rw [e2] at this; exact this)))
  · have nt : isTup d = true := by simpa using e
    cases hd with
    | tup h hs =>
      rename_i a xs ds
      have lx := hs.length
      refine w_or1 (t_not (t_btw (e_var 1 rfl (e_len G.len (e_var 0 rfl ⟨a, xs, rfl, .inr (.inl (.inl h)), lo, _, rfl, rfl, fun h1 => e_var 2 rfl ⟨hi, rfl, ?_⟩, fun h1 => ?_⟩)))))
      · by_cases h2 : (xs.length : Int) ≤ hi
        · rw [decide_eq_true h2]
          exact ⟨fun e => Bool.noConfusion e, fun _ => l_nil ⟨rfl, rfl, ds, rfl, by omega, by omega⟩⟩
        · rw [decide_eq_false h2]
          refine ⟨fun _ => ?_, fun e => Bool.noConfusion e⟩
          have e2 : tupD lo hi φ (.tuple ds) = false := by
            show (_ && decide ((ds.length : Int) ≤ hi) && _) = false
            rw [← lx, decide_eq_false h2]; simp
          exact l_one (s_ret (e_bl (by have := q H (Same.refl _); rw [e2] at this; exact this)))
      · refine ⟨fun _ => ?_, fun e => Bool.noConfusion e⟩
        have e2 : tupD lo hi φ (.tuple ds) = false := by
          show (decide (lo ≤ (ds.length : Int)) && _ && _) = false
          rw [← lx, decide_eq_false h1]; simp
        exact l_one (s_ret (e_bl (by have := q H (Same.refl _); rw [e2] at this; exact this)))
    | _ => cases nt
  rintro σ H2 ⟨rfl, rfl, ds, rfl, h1, h2⟩
  cases hd with
  | tup h hs =>
    rename_i a xs
    have ok2 := okS_t hok
    have e2 : tupD lo hi φ (.tuple ds) = ds.all φ := by
      show (decide (lo ≤ (ds.length : Int)) && decide ((ds.length : Int) ≤ hi) && ds.all φ) = _
      rw [decide_eq_true h1, decide_eq_true h2]; rfl
    rw [e2] at q
    refine l_cons (s_for (pi_tup pE) (pg_name (i := 4) scTupOf.nd rfl (.inl rfl)) (e_var 0 rfl ⟨a, rfl, ⟨xs, .inl (.inl h)⟩, for_tup (xs := xs) (fun i σ' H' => Same H2 H' ∧ (∃ u, σ' = [some (.ref a), some (.int lo), some (.int hi), some (.ref g), u]) ∧ (ds.take i).all φ = true) ⟨Same.refl _, ⟨none, rfl⟩, rfl⟩ (fun i σ' H' _ p => .inl (.inl (p.1 _ _ h))) ?_ ?_⟩) PassesOwn.never)
    · rintro i y σ' H' hy ⟨s2, ⟨u, rfl⟩, al⟩
      obtain ⟨d, hd, gy⟩ := hs.get hy
      have gy' := gy.same s2
      have lt : i < ds.length := (List.getElem?_eq_some_iff.mp hd).1
      have e3 : ds[i] = d := by rw [List.getElem?_eq_getElem lt] at hd; exact Option.some.inj hd
      show WL _ _ _ [some (.ref a), some (.int lo), some (.int hi), some (.ref g), some y] H'
      refine l_one (s_if (t_not (t_val (toE (pe_callL (i := 3) Fg hr rfl ?hv kg bg .nil pass0 pA) ⟨rfl, a_cons (e_var 4 rfl (a_nil ⟨S, y, d, rfl, gy', ok2 d (List.mem_of_getElem? hd), fun H4 s4 => ⟨φ d, rfl, fun e => ?_, fun e => ?_⟩⟩))⟩))))
      case hv => first | exact Or.inl rfl | exact Or.inr (Or.inl rfl) | exact Or.inr (Or.inr rfl)
      · have nd : φ d = false := nb e
        have al0 : ds.all φ = false := by
          cases z : ds.all φ with
          | false => rfl
          | true => rw [List.all_eq_true.mp z d (List.mem_of_getElem? hd)] at nd; cases nd
        rw [al0] at q
        exact l_one (s_ret (e_bl (q H4 (s2.trans s4))))
      · have nd : φ d = true := nb' e
        refine l_nil ⟨s2.trans s4, ⟨some y, rfl⟩, ?_⟩
        rw [List.take_succ_eq_append_getElem lt, List.all_append, al, e3]
        show (true && (φ d && true)) = true
        rw [nd]; rfl
    · rintro σ' H' ⟨s2, ⟨u, rfl⟩, al⟩
      rw [hs.length, List.take_length] at al
      rw [al] at q
      exact l_one (s_ret (e_bl (q H' s2)))
theorem scDiff : FnScope ["things"] ["things"] (defScope sDiff) := ⟨rfl, rfl, rfl, by decide +kernel, rfl, by decide +kernel, by decide +kernel⟩
theorem ok_diff {f : Addr} {fd : FuncData} (F : Fun K "are_different" "are_different" sDiff f fd) (G : Bf w K mg) : FnOk P w K mg base CX0 1 f fd ["things"] (spDiff K) := by
  refine Fun.okW F scDiff (fun vs H Q E h => by obtain ⟨a, b, rfl, _⟩ := h; rfl) (fun cdv B out s H vs Q E hr h => ?_)
  obtain ⟨a, xs, rfl, hs, hl, q⟩ := h
  refine l_one (s_ret (e_cmp op_eq (e_lenSet G.len G.set (e_var 0 rfl ⟨a, xs, rfl, hs, hl, e_len G.len (e_var 0 rfl ⟨a, _, rfl, hs, rfl, ?_⟩)⟩))))
  have e := cnt_nodup xs xs.length (Nat.le_refl _)
  rw [List.take_length] at e
  have e2 : decide (V.int (cnt xs xs.length : Nat) = V.int ((xs.map V.str).length : Nat)) = decide xs.Nodup := by
    rw [List.length_map]
    apply Bool.eq_iff_iff.mpr
    rw [decide_eq_true_eq, decide_eq_true_eq, ← e]
    constructor
    · intro h; injection h with h; omega
    · intro h; rw [h]
  rw [e2]
  exact q
theorem scValue : FnScope ["thing"] ["thing"] (defScope sValue) := ⟨rfl, rfl, rfl, by decide +kernel, rfl, by decide +kernel, by decide +kernel⟩
theorem ok_value {f : Addr} {fd : FuncData} (F : Fun K "is_value" "is_value" sValue f fd) (G : Bf w K mg) : FnOk P w K mg base CX0 1 f fd ["thing"] (spB valD) := by
  refine Fun.okW F scValue (fun vs H Q E h => by obtain ⟨a, b, c, rfl, _⟩ := h; rfl) (fun cdv B out s H vs Q E hr h => ?_)
  obtain ⟨S, v, d, rfl, hd, hok, q⟩ := h
  obtain ⟨t8, m8⟩ := G.most
  refine l_cons (WS.cut (P := fun σ H2 => H2 = H ∧ ∃ z, d = .str z ∧ σ = [some (.str z)] ∧ z.length ≤ 8) (s_if (t_w (w_or (t_not (t_val (e_isi G.isi G.str PyProof.Rows.boot_str (e_var 0 rfl ⟨tyD d, isStr d, hd.ty, kit_str d, isStr d, rfl, fun e => ?_, fun e => ?_⟩)))))) ) ?_)
  · have nt : isStr d = false := by simpa using e
    refine ⟨fun _ => ?_, fun e => Bool.noConfusion e⟩
    have e2 : valD d = false := by cases d <;> first | rfl | cases nt
    exact l_one (s_ret (e_bl (by have := q H (Same.refl _); rw [e2] at this; exact this)))
  · have nt : isStr d = true := by simpa using e
    cases hd with
    | str z =>
      refine w_or1 (t_gt (e_lenS G.len (e_var 0 rfl ⟨z, rfl, str_line hok, e_glob (v := .int 8) m8 ⟨_, rfl⟩ ⟨_, _, rfl, rfl, ?_⟩⟩)))
      by_cases h2 : (8 : Int) < (z.length : Int)
      · rw [decide_eq_true h2]
        refine ⟨fun _ => ?_, fun e => Bool.noConfusion e⟩
        have e2 : valD (.str z) = false := by
          show (_ && decide (z.length ≤ 8) && _) = false
          rw [decide_eq_false (show ¬ z.length ≤ 8 by omega)]; simp
        exact l_one (s_ret (e_bl (by have := q H (Same.refl _); rw [e2] at this; exact this)))
      · rw [decide_eq_false h2]
        exact ⟨fun e => Bool.noConfusion e, fun _ => l_nil ⟨rfl, z, rfl, rfl, by omega⟩⟩
    | _ => cases nt
  rintro σ H2 ⟨rfl, z, rfl, rfl, h2⟩
  have e2 : valD (.str z) = (Txt.isascii z && (Txt.isalpha z && Txt.islower z)) := by
    show (decide (1 ≤ z.length) && decide (z.length ≤ 8) && z.cps.toList.all letB) = _
    rw [low_eq, decide_eq_true h2, Bool.and_true]; rfl
  have qq := q H2 (Same.refl _)
  rw [e2] at qq
  refine l_one (s_ret (e_and (e_isascii (e_var 0 rfl ⟨z, rfl, _, rfl, fun e => e_and (e_isalpha (e_var 0 rfl ⟨z, rfl, _, rfl, fun e' => e_one (e_islower (e_var 0 rfl ⟨z, rfl, ?_⟩)), fun e' => ?_⟩)), fun e => ?_⟩))))
  · rw [e, e', Bool.true_and, Bool.true_and] at qq; exact qq
  · rw [e, e', Bool.true_and, Bool.false_and] at qq; exact qq
  · rw [e, Bool.false_and] at qq; exact qq
theorem scName : FnScope ["thing"] ["thing"] (defScope sName) := ⟨rfl, rfl, rfl, by decide +kernel, rfl, by decide +kernel, by decide +kernel⟩
theorem ok_name {f : Addr} {fd : FuncData} (F : Fun K "is_name" "is_name" sName f fd) (G : Bf w K mg) : FnOk P w K mg base CX0 2 f fd ["thing"] (spB namD) := by
  refine Fun.ok1 F scName fun cdv B out s H E d hr hok => ?_
  refine ld_ifret (td_w (wd_strM ⟨G.isi, G.str, G.len⟩ G.most (d_var 0) (d_var 0) hok)) (fun e => ?_) fun e => ?_
  · have e1 : namD d = false := by
      have e' := nb e
      cases d with
      | str z =>
        have e2 : decide (z.length ≤ 8) = false := e'
        show (decide (1 ≤ z.length) && decide (z.length ≤ 8) && z.cps.toList.all letB && _) = false
        rw [e2, Bool.and_false, Bool.false_and, Bool.false_and]
      | _ => rfl
    exact LD.cast (ld_end (sd_ret (d_bl false))) (by rw [e1])
  · have e' := nb' e
    rw [Bool.and_eq_true] at e'
    obtain ⟨z, rfl⟩ : ∃ z, d = .str z := ⟨_, isStr_eq e'.1⟩
    have e8 : decide (z.length ≤ 8) = true := e'.2
    refine LD.cast (ld_end (sd_ret (d_and (r := .none) (d_isascii (z := z) (d_var 0)) fun _ => d_and (r := .none) (d_isalpha (z := z) (d_var 0)) fun _ => d_and (r := .none) (d_islower (z := z) (d_var 0)) fun _ => d_one (d_notInK (z := z) G.resv (d_var 0))))) ?_
    show PyData.bool _ = .bool (decide (1 ≤ z.length) && decide (z.length ≤ 8) && z.cps.toList.all letB && !decide (z ∈ My.resv))
    have e3 := low_eq z
    have e4 : (Txt.isascii z && (Txt.isalpha z && (Txt.islower z && !decide (z ∈ My.resv)))) = ((Txt.isascii z && (Txt.isalpha z && Txt.islower z)) && !decide (z ∈ My.resv)) := by
      cases Txt.isascii z <;> cases Txt.isalpha z <;> rfl
    rw [e4, e3, e8, Bool.and_true]
    rfl
abbrev nAsc : List Str := ["values", "last", "value"]
theorem scAsc : FnScope nAsc ["values"] (defScope sAsc) := ⟨rfl, rfl, rfl, by decide +kernel, rfl, by decide +kernel, by decide +kernel⟩
def FAsc : List PyData → Option PyData
  | [.tuple ds] => if ds.all valD = true then some (.bool (ascF Str.empty (ds.map My.strOf))) else none
  | _ => none
theorem FAsc_of {ds : List PyData} (h : ds.all valD = true) : FAsc [.tuple ds] = some (.bool (ascF Str.empty (ds.map My.strOf))) := if_pos h
theorem FAsc_inv {es : List PyData} {r : PyData} (h : FAsc es = some r) : ∃ ds, es = [.tuple ds] ∧ ds.all valD = true ∧ r = .bool (ascF Str.empty (ds.map My.strOf)) := by
  match es, h with
  | [.tuple ds], h =>
    by_cases hv : ds.all valD = true
    · rw [FAsc_of hv] at h
      cases h
      exact ⟨ds, rfl, hv, rfl⟩
    · have e : (if ds.all valD = true then some (PyData.bool (ascF Str.empty (ds.map My.strOf))) else none) = some r := h
      rw [if_neg hv] at e
      cases e
theorem asc_for {X : Cx} {d0 : PyData} {body : List Stmt}
    (h1 : ∀ (x z : Str), lt x z → LD X [some d0, some (.str x), some (.str z)] body (.nx [some d0, some (.str z), some (.str z)]))
    (h2 : ∀ (x z : Str), ¬ lt x z → LD X [some d0, some (.str x), some (.str z)] body (.ret (.bool false))) :
    ∀ (zs : List Str) (x : Str) (u : Option PyData), (ascF x zs = true → ∃ y v, ForD X 2 body (zs.map PyData.str) [some d0, some (.str x), u] (.nx [some d0, some (.str y), v])) ∧ (ascF x zs = false → ForD X 2 body (zs.map PyData.str) [some d0, some (.str x), u] (.ret (.bool false)))
  | [], x, u => ⟨fun _ => ⟨x, u, .done⟩, fun e => by cases e⟩
  | z :: r, x, u => by
    have e : ascF x (z :: r) = (!(!decide (lt x z)) && ascF z r) := rfl
    obtain ⟨i1, i2⟩ := asc_for h1 h2 r z (some (.str z))
    by_cases hl : lt x z
    · rw [decide_eq_true hl] at e
      have e' : ascF x (z :: r) = ascF z r := by rw [e]; rfl
      rw [e']
      refine ⟨fun c => ?_, fun c => ?_⟩
      · obtain ⟨y, v, hf⟩ := i1 c
        exact ⟨y, v, .next (h1 x z hl) hf⟩
      · exact .next (h1 x z hl) (i2 c)
    · rw [decide_eq_false hl] at e
      refine ⟨fun c => ?_, fun c => .ret (h2 x z hl)⟩
      rw [e] at c
      cases c
theorem ok_asc {f : Addr} {fd : FuncData} (F : Fun K "are_ascending" "are_ascending" sAsc f fd) : FnOk P w K mg base CX0 1 f fd ["values"] (spD FAsc) := by
  refine Fun.okD F scAsc (fun ds d h => by obtain ⟨e, rfl, _⟩ := FAsc_inv h; rfl) fun cdv B out s H E es d hr h => ?_
  obtain ⟨ds, rfl, hv, rfl⟩ := FAsc_inv h
  have eds : ds = (ds.map My.strOf).map PyData.str := by
    clear h
    induction ds with
    | nil => rfl
    | cons x r ih =>
      rw [List.all_cons, Bool.and_eq_true] at hv
      rw [List.map_cons, List.map_cons, ← ih hv.2]
      congr 1
      cases x <;> first | rfl | (have z : false = true := hv.1; cases z)
  generalize ds.map My.strOf = zs at eds ⊢
  subst eds
  refine ld_cons (sd_set 1 (d_str _) scAsc.nd) ?_
  have step := asc_for (X := (cxOf CX0 P w K mg base nAsc "are_ascending" (defScope sAsc) f cdv B out s H E).nox) (d0 := .tuple (zs.map PyData.str)) (body := (match defBody sAsc with | _ :: .For _ _ l _ _ :: _ => l | _ => [])) (fun x z hl => ?_) (fun x z hl => ?_) zs Str.empty none
  · cases hall : ascF Str.empty zs with
    | false => exact ld_end (sd_forT 2 (d_var 0) (step.2 hall) (pg_name (i := 2) scAsc.nd rfl (.inl rfl)) PassesOwn.never)
    | true =>
      obtain ⟨y, v, hf⟩ := step.1 hall
      exact ld_cons (sd_forT 2 (d_var 0) hf (pg_name (i := 2) scAsc.nd rfl (.inl rfl)) PassesOwn.never) (ld_end (sd_ret (d_bl true)))
  · exact ld_cons (sd_if (k := false) (td_cmp o_leS (d_var 2) (d_var 1) ⟨_, _, rfl, rfl, by rw [decide_eq_true hl]; rfl⟩) (fun e => by cases e) fun _ => ld_nil) (ld_cons (sd_set 1 (d_var 2) scAsc.nd) ld_nil)
  · exact ld_end (sd_if (k := true) (td_cmp o_leS (d_var 2) (d_var 1) ⟨_, _, rfl, rfl, by rw [decide_eq_false hl]; rfl⟩) (fun _ => ld_end (sd_ret (d_bl false))) fun e => by cases e)
theorem scValues : FnScope ["thing"] ["thing"] (defScope sValues) := ⟨rfl, rfl, rfl, by decide +kernel, rfl, by decide +kernel, by decide +kernel⟩
theorem ok_values {f : Addr} {fd : FuncData} (F : Fun K "is_values" "is_values" sValues f fd) (G : Bf w K mg) (cV : CalN P w K mg base 1 "is_value" (spB valD)) (cT : CalN P w K mg base 2 "is_tuple_of" (spTO P w K mg base 1)) (cA : CalN P w K mg base 1 "are_ascending" (spD FAsc)) :
    FnOk P w K mg base CX0 3 f fd ["thing"] (spB valsD) := by
  refine Fun.ok1 F scValues fun cdv B out s H E d hr hok => ?_
  refine LD.cast (ld_end (sd_ret (d_and (r := d) (m := ascF Str.empty ((els d).map My.strOf)) (d_tupOf cT cV hr (by decide) (d_var 0) (d_int 1) (d_gint G.mostV) hok (by decide)) fun e => d_one ?_))) ?_
  · obtain ⟨t1, _, _, t3⟩ := tupD_els e
    exact d_call cA hr (by decide) (ad_cons ((d_var 0).cast (els_tup t1)) ad_nil) (FAsc_of (List.all_eq_true.mpr t3))
  · cases d with
    | tuple ds =>
      show PyData.bool ((decide ((1 : Int) ≤ ds.length) && decide ((ds.length : Int) ≤ 8) && ds.all valD) && ascF Str.empty (ds.map My.strOf)) = .bool (decide (1 ≤ ds.length) && decide (ds.length ≤ 8) && ds.all valD && ascS (ds.map My.strOf))
      have e1 : decide ((1 : Int) ≤ ds.length) = decide (1 ≤ ds.length) := by apply Bool.eq_iff_iff.mpr; simp only [decide_eq_true_eq]; omega
      have e3 : decide ((ds.length : Int) ≤ 8) = decide (ds.length ≤ 8) := by apply Bool.eq_iff_iff.mpr; simp only [decide_eq_true_eq]; omega
      rw [e1, e3]
      cases hv : ds.all valD with
      | false => rw [Bool.and_false, Bool.false_and, Bool.false_and]
      | true =>
        rw [ascF_empty]
        intro z hz
        obtain ⟨x, hx, rfl⟩ := List.mem_map.mp hz
        have h1 := List.all_eq_true.mp hv x hx
        cases x with
        | str z =>
          have h2 : (decide (1 ≤ z.length) && decide (z.length ≤ 8) && z.cps.toList.all letB) = true := h1
          rw [Bool.and_eq_true, Bool.and_eq_true] at h2
          exact of_decide_eq_true h2.1.1
        | _ => cases h1
    | _ => rfl
end
end K13

namespace K13
open PySem PySem.Spec PyProof.Rows L2 My
section
variable {P : Program} {w : World} {K : PySem.W.Frag} {mg : Str → Option Value} {base : Heap}
structure Bs (w : World) (K : PySem.W.Frag) (mg : Str → Option Value) : Prop extends Bf w K mg where
  bool : mg "bool" = none
  any : mg "any" = none
  mSources : ∃ t, mg "MOST_SOURCES" = some (.int 4 t)
  mTold : ∃ t, mg "MOST_TOLD" = some (.int 8 t)
  mCond : ∃ t, mg "MOST_CONDITIONS" = some (.int 8 t)
  mTerms : ∃ t, mg "MOST_TERMS" = some (.int 2 t)
  deepest : ∃ t, mg "DEEPEST_CALL" = some (.int 3 t)
theorem Bs.g3 {w : World} {mg : Str → Option Value} {K : PySem.W.Frag} (G : Bs w K mg) : mg "isinstance" = none ∧ mg "tuple" = none ∧ mg "len" = none := ⟨G.isi, G.tuple, G.len⟩
theorem scNN : FnScope ["thing"] ["thing"] (defScope sNN) := ⟨rfl, rfl, rfl, by decide +kernel, rfl, by decide +kernel, by decide +kernel⟩
theorem ok_nn {f : Addr} {fd : FuncData} (F : Fun K "is_name_or_none" "is_name_or_none" sNN f fd) (G : Bs w K mg) (cN : CalN P w K mg base 2 "is_name" (spB namD)) : FnOk P w K mg base CX0 3 f fd ["thing"] (spB nnD) := by
  refine Fun.ok1 F scNN fun cdv B out s H E d hr hok => ?_
  exact ld_end (sd_ret (d_or (d_isN (d_var 0)) fun _ => d_one (d_fn cN hr (Nat.le_refl _) (d_var 0) hok)))
abbrev nColumn : List Str := ["thing", "label", "name"]
theorem scColumn : FnScope nColumn ["thing"] (defScope sColumn) := ⟨rfl, rfl, rfl, by decide +kernel, rfl, by decide +kernel, by decide +kernel⟩
theorem ok_column {f : Addr} {fd : FuncData} (F : Fun K "is_column" "is_column" sColumn f fd) (G : Bs w K mg) (cN : CalN P w K mg base 2 "is_name" (spB namD)) : FnOk P w K mg base CX0 4 f fd ["thing"] (spB colD) := by
  refine Fun.ok1 F scColumn fun cdv B out s H E d hr hok => ?_
  refine ld_ifret (k := !tupN d 2) (td_w (wd_tupN1 (n := 2) G.g3 (d_var 0) (d_var 0))) (fun h => ?_) fun h => ?_
  · refine LD.cast (ld_end (sd_ret (d_bl false))) ?_
    have h' : tupN d 2 = false := nb h
    unfold colD My.pairD
    rw [h']; rfl
  have h2 : tupN d 2 = true := nb' h
  refine ld_cons (sd_unp2 1 2 ((d_var 0).cast (tup2 h2)) (pg_tup rfl (pgs_cons (pg_name (i := 1) scColumn.nd rfl (.inl rfl)) (pgs_cons (pg_name (i := 2) scColumn.nd rfl (.inl rfl)) pgs_nil)))) ?_
  refine LD.cast (ld_end (sd_ret (d_and (r := d) (d_or (d_isN (d_var 1)) fun _ => d_one (d_fn cN hr (by decide) (d_var 1) (okS_at hok 0))) fun _ => d_one (d_fn cN hr (by decide) (d_var 2) (okS_at hok 1))))) ?_
  unfold colD My.pairD
  rw [h2, Bool.true_and]
  rfl
abbrev nCall : List Str := ["thing", "deepest", "word", "schema", "name", "terms", "term"]
theorem scCall : FnScope nCall ["thing", "deepest"] (defScope sCall) := ⟨rfl, rfl, rfl, by decide +kernel, rfl, by decide +kernel, by decide +kernel⟩
def FC (k : Nat) : List PyData → Option PyData
  | [d, .int i] => if i = k ∧ okS d = true then some (.bool (callD k d)) else none
  | _ => none
theorem FC_inv {k : Nat} {ds : List PyData} {r : PyData} (h : FC k ds = some r) : ∃ d, ds = [d, .int k] ∧ okS d = true ∧ r = .bool (callD k d) := by
  match ds, h with
  | [d, .int i], h =>
    by_cases hk : i = k ∧ okS d = true
    · have e : (if i = k ∧ okS d = true then some (PyData.bool (callD k d)) else none) = some r := h
      rw [if_pos hk] at e
      cases e
      exact ⟨d, by rw [hk.1], hk.2, rfl⟩
    · have e : (if i = k ∧ okS d = true then some (PyData.bool (callD k d)) else none) = some r := h
      rw [if_neg hk] at e
      cases e
theorem FC_of {k : Nat} {d : PyData} (h : okS d = true) : FC k [d, .int k] = some (.bool (callD k d)) := if_pos ⟨rfl, h⟩
theorem ok_call {f : Addr} {fd : FuncData} (F : Fun K "is_call" "is_call" sCall f fd) (bd : Binds K fd ["thing", "deepest"] []) (hm : mg "is_call" = some (.ref f)) (G : Bs w K mg) (cV : CalN P w K mg base 1 "is_value" (spB valD)) (cN : CalN P w K mg base 2 "is_name" (spB namD)) (cNN : CalN P w K mg base 3 "is_name_or_none" (spB nnD)) (cC : CalN P w K mg base 4 "is_column" (spB colD)) :
    ∀ k, FnOk P w K mg base CX0 (k + 5) f fd ["thing", "deepest"] (spD (FC k))
  | 0 => by
    refine Fun.okD (k := 4) F scCall (fun ds d h => by obtain ⟨e, rfl, _⟩ := FC_inv h; rfl) fun cdv B out s H E ds d hr h => ?_
    obtain ⟨e, rfl, ok, rfl⟩ := FC_inv h
    refine ld_ifret (k := true) ((td_w (wd_or (k := true) (m := true) (td_cmp o_eqI (d_var 1) (d_int 0) ⟨_, _, rfl, rfl, rfl⟩) fun e => by cases e))) (fun _ => ld_end (sd_ret (d_bl false))) fun e => by cases e
  | k + 1 => by
    have ih := ok_call F bd hm G cV cN cNN cC k
    have cI : CalN P w K mg base (k + 5) "is_call" (spD (FC k)) := ⟨f, fd, _, ih, hm, F.kp, bd⟩
    refine Fun.okD (k := k + 5) F scCall (fun ds d h => by obtain ⟨e, rfl, _⟩ := FC_inv h; rfl) fun cdv B out s H E ds d hr h => ?_
    obtain ⟨d, rfl, ok, rfl⟩ := FC_inv h
    refine ld_ifret (k := !tupN d 4) ((td_w ((wd_or (k := false) (m := !tupN d 4) (td_cmp o_eqI (d_var 1) (d_int 0) ⟨_, _, rfl, rfl, ?_⟩) fun _ => ?_)))) (fun h => ?_) fun h => ?_
    · exact (decide_eq_false (by omega)).symm
    · exact wd_tupN1 (n := 4) G.g3 (d_var 0) (d_var 0)
    · refine LD.cast (ld_end (sd_ret (d_bl false))) ?_
      have h' : tupN d 4 = false := nb h
      show PyData.bool false = .bool (tupN d 4 && _ && _)
      rw [h']; rfl
    have h4 : tupN d 4 = true := nb' h
    have e4 := tup4 h4
    refine ld_cons (sd_unp4 2 3 4 5 ((d_var 0).cast e4) (pg_tup rfl (pgs_cons (pg_name (i := 2) scCall.nd rfl (.inl rfl)) (pgs_cons (pg_name (i := 3) scCall.nd rfl (.inl rfl)) (pgs_cons (pg_name (i := 4) scCall.nd rfl (.inl rfl)) (pgs_cons (pg_name (i := 5) scCall.nd rfl (.inl rfl)) pgs_nil)))))) ?_
    refine ld_ifret (k := !(eqS (at' d 0) "call" && nnD (at' d 1) && namD (at' d 2))) ((td_w (WD.cast (wd_or (k := !eqS (at' d 0) "call") (m := !nnD (at' d 1) || !namD (at' d 2)) (td_cmp (o_neS hr.units) (d_var 2) (d_str _) ⟨_, rfl, rfl⟩) fun _ => wd_or (td_not (td_val (d_fn cNN hr (by omega) (d_var 3) (okS_at ok 1)))) fun _ => wd_or1 (td_not (td_val (d_fn cN hr (by omega) (d_var 4) (okS_at ok 2))))) ?_))) (fun h => ?_) fun h => ?_
    · cases eqS (at' d 0) "call" <;> cases nnD (at' d 1) <;> cases namD (at' d 2) <;> rfl
    · refine LD.cast (ld_end (sd_ret (d_bl false))) ?_
      have h' : (eqS (at' d 0) "call" && nnD (at' d 1) && namD (at' d 2)) = false := nb h
      show PyData.bool false = .bool (tupN d 4 && (eqS (at' d 0) "call" && nnD (at' d 1) && namD (at' d 2)) && _)
      rw [h', Bool.and_false]; rfl
    have h5 : (eqS (at' d 0) "call" && nnD (at' d 1) && namD (at' d 2)) = true := nb' h
    have ev : callD (k + 1) d = tupD 1 2 (fun x => colD x || valD x || callD k x) (at' d 3) := by
      show (tupN d 4 && (eqS (at' d 0) "call" && nnD (at' d 1) && namD (at' d 2)) && _) = _
      rw [h4, h5]; rfl
    rw [ev]
    refine ld_ifret (k := !tupD 1 2 (fun _ => true) (at' d 3)) (td_w (wd_tupB G.g3 (d_var 5) (d_var 5) (d_int 1) (d_gint G.mTerms))) (fun h => ?_) fun h => ?_
    · refine LD.cast (ld_end (sd_ret (d_bl false))) ?_
      have h' : tupD 1 2 (fun _ => true) (at' d 3) = false := nb h
      rw [tupD_no h']
    have h6 : tupD 1 2 (fun _ => true) (at' d 3) = true := nb' h
    obtain ⟨ht, l1, l2, _⟩ := tupD_els h6
    refine LD.cast (ld_forAll 6 (fun x => colD x || valD x || callD k x) ((d_var 5).cast (els_tup ht)) (fun x hx => ?_) (pg_name (i := 6) scCall.nd rfl (Or.inl rfl)) PassesOwn.never) ?_
    · have okx := okS_els (okS_at ok 3) x hx
      have e : (!(colD x || valD x || callD k x)) = (!colD x && (!valD x && !callD k x)) := by cases colD x <;> cases valD x <;> rfl
      rw [e]
      refine td_w (wd_and (td_not (td_val (d_fn cC hr (by omega) (d_var 6) okx))) fun _ => wd_and (td_not (td_val (d_fn cV hr (by omega) (d_var 6) okx))) fun _ => wd_and1 (td_not (td_val (d_call cI hr (by omega) (ad_cons (d_var 6) (ad_cons (d_subI (i := ((k + 1 : Nat) : Int)) (j := 1) (d_var 1) (d_int 1)) ad_nil)) ?_))))
      have e2 : ((k + 1 : Nat) : Int) - 1 = (k : Int) := by omega
      rw [e2]
      exact FC_of okx
    · rw [tupD_yes h6]
theorem scTold : FnScope ["thing"] ["thing"] (defScope sTold) := ⟨rfl, rfl, rfl, by decide +kernel, rfl, by decide +kernel, by decide +kernel⟩
theorem ok_told {f : Addr} {fd : FuncData} (F : Fun K "is_told" "is_told" sTold f fd) (G : Bs w K mg) (cV : CalN P w K mg base 1 "is_value" (spB valD)) (cN : CalN P w K mg base 2 "is_name" (spB namD)) (cC : CalN P w K mg base 4 "is_column" (spB colD)) (cI : CalN P w K mg base 8 "is_call" (spD (FC 3))) :
    FnOk P w K mg base CX0 9 f fd ["thing"] (spB toldD) := by
  refine Fun.ok1 F scTold fun cdv B out s H E d hr hok => ?_
  refine ld_ifret (k := !isTup d) (td_not (td_val (d_isTup G.isi G.tuple (d_var 0)))) (fun h => ?_) fun h => ?_
  · refine LD.cast (ld_end (sd_ret (d_bl false))) ?_
    have nt := nb h
    simp [toldD, My.pairD, tupN, nt]
  have ht := nb' h
  refine ld_ifret (k := decide ((els d).length = 2)) (td_cmp o_eqI (d_len (ds := els d) G.len ((d_var 0).cast (els_tup ht))) (d_int 2) ⟨_, _, rfl, rfl, (dec_cast _ 2).symm⟩) (fun h2 => ?_) fun h2 => ?_
  · have hl := of_decide_eq_true h2
    refine LD.cast (ld_end (sd_ret (d_and (r := d) (d_cmp (o_eqS hr.units) (d_at (n := 0) (d_var 0) ht (by rw [hl]; decide)) (d_str _) ⟨_, rfl, rfl⟩) fun _ => d_one (d_fn cN hr (by decide) (d_at (n := 0) (d_var 0) ht (by rw [hl]; decide)) (okS_at hok 1))))) ?_
    unfold toldD
    rw [if_pos (show My.pairD d = true by unfold My.pairD tupN; rw [ht, h2]; rfl)]
  have ev : toldD d = (tupN d 3 && namD (at' d 2) && (if eqS (at' d 0) "column" then colD (at' d 1) else eqS (at' d 0) "term" && (valD (at' d 1) || callD 3 (at' d 1)))) := by
    unfold toldD
    rw [if_neg (show ¬ My.pairD d = true by unfold My.pairD tupN; rw [ht, h2]; decide)]
  rw [ev]
  have e3 : tupN d 3 = decide ((els d).length = 3) := by unfold tupN; rw [ht, Bool.true_and]
  refine ld_ifret (k := !tupN d 3 || !namD (at' d 2)) (td_w (wd_or (k := !tupN d 3) (td_cmp o_neI (d_len (ds := els d) G.len ((d_var 0).cast (els_tup ht))) (d_int 3) ⟨_, _, rfl, rfl, by rw [e3]; exact congrArg Bool.not (dec_cast _ 3).symm⟩) fun h3 => wd_or1 (td_not (td_val (d_fn cN hr (by decide) (d_at (n := 0) (d_var 0) ht (by rw [(tupN_tup (nb' h3)).2]; decide)) (okS_at hok 2)))))) (fun h => ?_) fun h => ?_
  · refine LD.cast (ld_end (sd_ret (d_bl false))) ?_
    have e : (tupN d 3 && namD (at' d 2)) = false := by revert h; cases tupN d 3 <;> cases namD (at' d 2) <;> decide
    rw [e]; rfl
  have e : (tupN d 3 && namD (at' d 2)) = true := by revert h; cases tupN d 3 <;> cases namD (at' d 2) <;> decide
  rw [e, Bool.true_and]
  rw [Bool.and_eq_true] at e
  obtain ⟨_, hl⟩ := tupN_tup e.1
  refine ld_ifret (td_cmp (o_eqS hr.units) (d_at (n := 0) (d_var 0) ht (by rw [hl]; decide)) (d_str _) ⟨_, rfl, rfl⟩) (fun h => ?_) fun h => ?_
  · refine LD.cast (ld_end (sd_ret (d_fn cC hr (by decide) (d_at (n := 0) (d_var 0) ht (by rw [hl]; decide)) (okS_at hok 1)))) ?_
    rw [if_pos h]
  rw [if_neg (by rw [h]; decide)]
  refine ld_end (sd_ret (d_and (r := d) (d_cmp (o_eqS hr.units) (d_at (n := 0) (d_var 0) ht (by rw [hl]; decide)) (d_str _) ⟨_, rfl, rfl⟩) fun _ => d_one (d_or (d_fn cV hr (by decide) (d_at (n := 0) (d_var 0) ht (by rw [hl]; decide)) (okS_at hok 1)) fun _ => d_one (d_call cI hr (by decide) (ad_cons (d_at (n := 0) (d_var 0) ht (by rw [hl]; decide)) (ad_cons (d_gint G.deepest) ad_nil)) (FC_of (okS_at hok 1))))))
abbrev nSource : List Str := ["thing", "schema", "name", "label"]
theorem scSource : FnScope nSource ["thing"] (defScope sSource) := ⟨rfl, rfl, rfl, by decide +kernel, rfl, by decide +kernel, by decide +kernel⟩
theorem ok_source {f : Addr} {fd : FuncData} (F : Fun K "is_source" "is_source" sSource f fd) (G : Bs w K mg) (cN : CalN P w K mg base 2 "is_name" (spB namD)) : FnOk P w K mg base CX0 4 f fd ["thing"] (spB srcD) := by
  refine Fun.ok1 F scSource fun cdv B out s H E d hr hok => ?_
  refine ld_ifret (k := !tupN d 3) (td_w (wd_tupN1 (n := 3) G.g3 (d_var 0) (d_var 0))) (fun h => ?_) fun h => ?_
  · refine LD.cast (ld_end (sd_ret (d_bl false))) ?_
    have h' : tupN d 3 = false := nb h
    unfold srcD
    rw [h']; rfl
  have h3 : tupN d 3 = true := nb' h
  refine ld_cons (sd_unp3 1 2 3 ((d_var 0).cast (tup3 h3)) (pg_tup rfl (pgs_cons (pg_name (i := 1) scSource.nd rfl (.inl rfl)) (pgs_cons (pg_name (i := 2) scSource.nd rfl (.inl rfl)) (pgs_cons (pg_name (i := 3) scSource.nd rfl (.inl rfl)) pgs_nil))))) ?_
  refine LD.cast (ld_end (sd_ret (d_and (r := d) (d_or (d_isN (d_var 1)) fun _ => d_one (d_fn cN hr (by decide) (d_var 1) (okS_at hok 0))) fun _ => d_and (r := d) (d_fn cN hr (by decide) (d_var 2) (okS_at hok 1)) fun _ => d_one (d_fn cN hr (by decide) (d_var 3) (okS_at hok 2))))) ?_
  unfold srcD
  rw [h3, Bool.true_and, Bool.and_assoc]
  rfl
theorem scCond : FnScope ["thing"] ["thing"] (defScope sCond) := ⟨rfl, rfl, rfl, by decide +kernel, rfl, by decide +kernel, by decide +kernel⟩
theorem ok_cond {f : Addr} {fd : FuncData} (F : Fun K "is_condition" "is_condition" sCond f fd) (G : Bs w K mg) (cC : CalN P w K mg base 4 "is_column" (spB colD)) (cVs : CalN P w K mg base 3 "is_values" (spB valsD)) : FnOk P w K mg base CX0 5 f fd ["thing"] (spB condD) := by
  refine Fun.ok1 F scCond fun cdv B out s H E d hr hok => ?_
  refine ld_ifret (k := !tupN d 3 || !colD (at' d 1)) (td_w (wd_tupN G.g3 (d_var 0) (d_var 0) fun h3 => wd_or1 (td_not (td_val (d_fn cC hr (by decide) (d_at (n := 0) (d_var 0) (tupN_tup h3).1 (by rw [(tupN_tup h3).2]; decide)) (okS_at hok 1)))))) (fun h => ?_) fun h => ?_
  · refine LD.cast (ld_end (sd_ret (d_bl false))) ?_
    have e : (tupN d 3 && colD (at' d 1)) = false := by revert h; cases tupN d 3 <;> cases colD (at' d 1) <;> decide
    unfold condD
    rw [e]; rfl
  have e : (tupN d 3 && colD (at' d 1)) = true := by revert h; cases tupN d 3 <;> cases colD (at' d 1) <;> decide
  have ev : condD d = (if eqS (at' d 0) "equal" then colD (at' d 2) else eqS (at' d 0) "in" && valsD (at' d 2)) := by
    unfold condD
    rw [e, Bool.true_and]
  rw [ev]
  rw [Bool.and_eq_true] at e
  obtain ⟨ht, hl⟩ := tupN_tup e.1
  refine ld_ifret (td_cmp (o_eqS hr.units) (d_at (n := 0) (d_var 0) ht (by rw [hl]; decide)) (d_str _) ⟨_, rfl, rfl⟩) (fun h => ?_) fun h => ?_
  · refine LD.cast (ld_end (sd_ret (d_fn cC hr (by decide) (d_at (n := 0) (d_var 0) ht (by rw [hl]; decide)) (okS_at hok 2)))) ?_
    rw [if_pos h]
  rw [if_neg (by rw [h]; decide)]
  exact ld_end (sd_ret (d_and (r := d) (d_cmp (o_eqS hr.units) (d_at (n := 0) (d_var 0) ht (by rw [hl]; decide)) (d_str _) ⟨_, rfl, rfl⟩) fun _ => d_one (d_fn cVs hr (by decide) (d_at (n := 0) (d_var 0) ht (by rw [hl]; decide)) (okS_at hok 2))))
theorem src_lab {x : PyData} (h : srcD x = true) : ∃ z, at' x 2 = .str z := by
  unfold srcD at h
  simp only [Bool.and_eq_true] at h
  exact ⟨_, nam_str h.2.2⟩
abbrev nStatement : List Str := ["thing", "distinct", "told", "sources", "conditions", "source"]
theorem scStatementP : FnScope nStatement ["thing"] (defScope sStatementP) := ⟨rfl, rfl, rfl, by decide +kernel, rfl, by decide +kernel, by decide +kernel⟩
theorem ok_statementP {f : Addr} {fd : FuncData} (F : Fun K "is_statement" "is_statement" sStatementP f fd) (G : Bs w K mg) (cT : CalN P w K mg base 10 "is_tuple_of" (spTO P w K mg base 9)) (cD : CalN P w K mg base 1 "are_different" (spDiff K))
    (c1 : CalN P w K mg base 9 "is_told" (spB toldD)) (c2 : CalN P w K mg base 9 "is_source" (spB srcD)) (c3 : CalN P w K mg base 9 "is_condition" (spB condD)) : FnOk P w K mg base CX0 11 f fd ["thing"] (spB stD) := by
  refine Fun.ok1 F scStatementP fun cdv B out s H E d hr hok => ?_
  refine ld_ifret (k := !tupN d 4) (td_w (wd_tupN1 (n := 4) G.g3 (d_var 0) (d_var 0))) (fun h => ?_) fun h => ?_
  · refine LD.cast (ld_end (sd_ret (d_bl false))) ?_
    unfold stD
    rw [nb h]; rfl
  have h4 := nb' h
  refine ld_cons (sd_unp4 1 2 3 4 ((d_var 0).cast (tup4 h4)) (pg_tup rfl (pgs_cons (pg_name (i := 1) scStatementP.nd rfl (.inl rfl)) (pgs_cons (pg_name (i := 2) scStatementP.nd rfl (.inl rfl)) (pgs_cons (pg_name (i := 3) scStatementP.nd rfl (.inl rfl)) (pgs_cons (pg_name (i := 4) scStatementP.nd rfl (.inl rfl)) pgs_nil)))))) ?_
  have ev : stD d = (isBoo (at' d 0) && (tupD 1 8 toldD (at' d 1) && (tupD 1 4 srcD (at' d 2) && (decide (labs (at' d 2) 2).Nodup && tupD 0 8 condD (at' d 3))))) := by
    unfold stD
    rw [h4, Bool.true_and, Bool.and_assoc, Bool.and_assoc, Bool.and_assoc]
  rw [ev]
  refine ld_end (sd_ret (d_and (r := d) (d_isBool G.isi G.bool (d_var 1)) fun _ => d_and (r := d) (d_tupOf (f := toldD) cT c1 hr (by decide) (d_var 2) (d_int 1) (d_gint G.mTold) (okS_at hok 1) (by decide)) fun _ => d_and (r := d) (d_tupOf (f := srcD) cT c2 hr (by decide) (d_var 3) (d_int 1) (d_gint G.mSources) (okS_at hok 2) (by decide)) fun hs => d_and (r := d) ?_ fun _ => d_one (d_tupOf (f := condD) cT c3 hr (by decide) (d_var 4) (d_int 0) (d_gint G.mCond) (okS_at hok 3) (by decide))))
  obtain ⟨ht, l1, l2, hsrc⟩ := tupD_els hs
  have hll : (labs (at' d 2) 2).length = (els (at' d 2)).length := List.length_map ..
  refine d_diff cD hr (by decide) (.inl (ED.cast (d_lcT (n := 0) 5 (fun x => at' x 2) scStatementP.nd (blkOk_by (N := nStatement) (sc := defScope sStatementP) (by decide +kernel)) ((d_var 3).cast (els_tup ht)) (by omega) (fun x hx => ?_) (fun _ _ _ _ _ => pg_name (i := 5) scStatementP.nd rfl (Or.inl rfl))) (congrArg PyData.list (labs_data fun x hx => src_lab (hsrc x hx))))) (by omega)
  intro s0 H00 C cl fp
  have hx3 := hsrc x hx
  unfold srcD at hx3
  rw [Bool.and_eq_true] at hx3
  obtain ⟨hxt, hxl⟩ := tupN_tup hx3.1
  exact d_at (n := 0) (d_var 5) hxt (by rw [hxl]; decide)
structure Bt (w : World) (K : PySem.W.Frag) (mg : Str → Option Value) : Prop extends Bs w K mg where
  repr : mg "repr" = none
  list : mg "list" = none
  range : mg "range" = none
theorem Bt.s3 {mg : Str → Option Value} (G : Bt w K mg) : mg "isinstance" = none ∧ mg "str" = none ∧ mg "len" = none := ⟨G.isi, G.str, G.len⟩
theorem Bt.t3 {mg : Str → Option Value} (G : Bt w K mg) : mg "isinstance" = none ∧ mg "tuple" = none ∧ mg "len" = none := ⟨G.isi, G.tuple, G.len⟩
end
end K13

namespace My
open PySem PySem.Spec PyProof.Rows L2
/-! ### what is read has the forms, and is not big -/
def Fz (n k : Nat) (d : PyData) : Prop := okE d = true ∧ szE d ≤ n ∧ d.depth ≤ k
def FzL (n k : Nat) (ds : List PyData) : Prop := okEs ds = true ∧ szEs ds ≤ n ∧ PyData.depthAll ds ≤ k
theorem Fz.mono {n k m j : Nat} {d : PyData} (h : Fz n k d) (a : n ≤ m) (b : k ≤ j) : Fz m j d := ⟨h.1, Nat.le_trans h.2.1 a, Nat.le_trans h.2.2 b⟩
theorem FzL.nil {k : Nat} : FzL 0 k [] := ⟨rfl, Nat.le_refl _, Nat.zero_le _⟩
theorem Fz.cons {a b k : Nat} {d : PyData} {ds : List PyData} (h : Fz a k d) (hs : FzL b k ds) : FzL (a + 2 + b) k (d :: ds) := by
  refine ⟨?_, ?_, ?_⟩
  · show (okE d && okEs ds) = true
    rw [h.1, hs.1]; rfl
  · show szE d + 2 + szEs ds ≤ _
    have := h.2.1
    have := hs.2.1
    omega
  · show max (PyData.depth d) (PyData.depthAll ds) ≤ k
    have h1 : PyData.depth d ≤ k := h.2.2
    have := hs.2.2
    omega
theorem FzL.tup {n k : Nat} {ds : List PyData} (h : FzL n k ds) : Fz (n + 5) (k + 1) (.tuple ds) := ⟨h.1, Nat.add_le_add_right h.2.1 5, Nat.succ_le_succ h.2.2⟩
theorem depthAll_lez {n : Nat} : ∀ {ds : List PyData}, (∀ d ∈ ds, d.depth ≤ n) → PyData.depthAll ds ≤ n
  | [], _ => Nat.zero_le _
  | d :: ds, h => by
    show max (PyData.depth d) (PyData.depthAll ds) ≤ n
    have h1 : PyData.depth d ≤ n := h d List.mem_cons_self
    have := depthAll_lez (ds := ds) fun x hx => h x (List.mem_cons_of_mem _ hx)
    omega
theorem FzL.of {n k m : Nat} : ∀ {ds : List PyData}, ds.length ≤ m → (∀ d ∈ ds, Fz n k d) → FzL (m * (n + 2)) k ds := fun {ds} hl h => by
  refine ⟨okEs_of fun d hd => (h d hd).1, ?_, depthAll_lez fun d hd => (h d hd).2.2⟩
  refine Nat.le_trans ?_ (Nat.mul_le_mul_right (n + 2) hl)
  clear hl
  induction ds with
  | nil => exact Nat.zero_le _
  | cons d ds ih =>
    show szE d + 2 + szEs ds ≤ (ds.length + 1) * (n + 2)
    have h1 := (h d List.mem_cons_self).2.1
    have h2 := ih fun x hx => h x (List.mem_cons_of_mem _ hx)
    rw [Nat.succ_mul]
    omega
theorem Fz.okS {n k : Nat} {d : PyData} (h : Fz n k d) (a : n ≤ 1000000) (b : k ≤ 50) : okS d = true := okS_iff.mpr ⟨h.1, Nat.le_trans h.2.1 a, Nat.le_trans h.2.2 b⟩
theorem fzV {z : Str} {k : Nat} (h : valS z = true) : Fz 85 k (.str z) := by
  obtain ⟨h1, h2⟩ := val_cs h
  have el : (cs z).length = z.length := rfl
  refine ⟨?_, by show 10 * z.length + 5 ≤ 85; omega, Nat.zero_le _⟩
  show (decide (z.length ≤ 1000) && (cs z).all fun c => decide (c < 128)) = true
  rw [decide_eq_true (show z.length ≤ 1000 by omega), Bool.true_and]
  exact List.all_eq_true.mpr fun c hc => decide_eq_true (lowC_3 c (List.all_eq_true.mp h1 c hc))
theorem fzN {d : PyData} {k : Nat} (h : namD d = true) : Fz 85 k d := by
  obtain ⟨z, rfl, hz, _⟩ := namE h
  exact fzV hz
theorem fzO {d : PyData} {k : Nat} (h : nnD d = true) : Fz 85 k d := by
  rcases nnE h with rfl | h
  · exact ⟨rfl, by decide, Nat.zero_le _⟩
  · exact fzN h
theorem fzC {d : PyData} {k : Nat} (h : colD d = true) : Fz 179 (k + 1) d := by
  obtain ⟨a, b, rfl, ha, hb⟩ := colE h
  exact ((fzO ha).cons (k := k) ((fzN hb).cons .nil)).tup.mono (by omega) (by omega)
def zB : Nat → Nat
  | 0 => 179
  | k + 1 => 2 * zB k + 400
theorem zB_ge : ∀ k, 179 ≤ zB k
  | 0 => Nat.le_refl _
  | k + 1 => by have := zB_ge k; show 179 ≤ 2 * zB k + 400; omega
theorem fzW {z : Str} {k : Nat} (h : z.length ≤ 8) (e : okE (.str z) = true) : Fz 85 k (.str z) := ⟨e, by show 10 * z.length + 5 ≤ 85; omega, Nat.zero_le _⟩
theorem fzTm : ∀ (k : Nat) {d : PyData}, (colD d || valD d || callD k d) = true → Fz (zB k) (2 * k + 1) d
  | k, d, h => by
    have hz := zB_ge k
    rw [Bool.or_eq_true, Bool.or_eq_true] at h
    rcases h with (h | h) | h
    · exact (fzC (k := 2 * k) h).mono hz (Nat.le_refl _)
    · obtain ⟨z, rfl, hv⟩ := valE h
      exact (fzV hv).mono (by omega) (Nat.le_refl _)
    · obtain ⟨j, s, n, ts, rfl, rfl, hs, hn, l1, l2, hts⟩ := callE h
      have i : FzL (2 * (zB j + 2)) (2 * j + 1) ts := FzL.of l2 fun t ht => fzTm j (hts t ht)
      have c : Fz 85 (2 * j + 2) (.str "call") := fzW (by decide) (by decide +kernel)
      refine (c.cons ((fzO hs).cons ((fzN hn).cons ((i.tup).cons .nil)))).tup.mono ?_ (by omega)
      show _ ≤ 2 * zB j + 400
      omega
theorem pName_form {r r' : Cs} {d : PyData} (h : pName r = some (d, r')) : namD d = true := by
  unfold pName at h
  split at h
  · rename_i e
    cases h; exact e
  · cases h
theorem pVal_form {r r' : Cs} {d : PyData} (h : pVal r = some (d, r')) : valD d = true := by
  unfold pVal at h
  obtain ⟨r1, _, h⟩ := Option.bind_eq_some_iff.mp h
  split at h
  · rename_i e
    obtain ⟨r2, _, h⟩ := Option.map_eq_some_iff.mp h
    cases h; exact e
  · cases h
theorem pDot_form {r r' : Cs} {a b : PyData} (h : pDot r = some ((a, b), r')) : nnD a = true ∧ namD b = true := by
  unfold pDot at h
  obtain ⟨⟨d, r1⟩, h1, h⟩ := Option.bind_eq_some_iff.mp h
  have hd := pName_form h1
  cases e : tk "." r1 with
  | some r2 =>
    simp only [e] at h
    obtain ⟨⟨u, r3⟩, h3, h4⟩ := Option.map_eq_some_iff.mp h
    cases h4
    refine ⟨?_, pName_form h3⟩
    show (isNone _ || namD _) = true
    rw [hd, Bool.or_true]
  | none =>
    simp only [e] at h
    cases h
    exact ⟨rfl, hd⟩
theorem col_mk {a b : PyData} (ha : nnD a = true) (hb : namD b = true) : colD (.tuple [a, b]) = true := by
  show (true && (nnD a && namD b)) = true
  rw [ha, hb]; rfl
theorem call_mk {k : Nat} {s n : PyData} {ts : List PyData} (hs : nnD s = true) (hn : namD n = true) (l1 : 1 ≤ ts.length) (l2 : ts.length ≤ 2) (h : ∀ t ∈ ts, (colD t || valD t || callD k t) = true) : callD (k + 1) (.tuple [.str "call", s, n, .tuple ts]) = true := by
  show (true && (eqS (.str "call") "call" && nnD s && namD n) && (decide ((1 : Int) ≤ ts.length) && decide ((ts.length : Int) ≤ 2) && ts.all fun x => colD x || valD x || callD k x)) = true
  rw [hs, hn, decide_eq_true (show (1 : Int) ≤ ts.length by omega), decide_eq_true (show (ts.length : Int) ≤ 2 by omega), List.all_eq_true.mpr h]
  decide +kernel
theorem pTerm_form : ∀ {k : Nat} {r r' : Cs} {d : PyData}, pTerm k r = some (d, r') → (colD d || valD d || callD k d) = true
  | k, r, r', d, h => by
    unfold pTerm at h
    split at h
    · rw [pVal_form h, Bool.or_true]; rfl
    · obtain ⟨⟨⟨a, b⟩, r1⟩, h1, h2⟩ := Option.bind_eq_some_iff.mp h
      obtain ⟨ha, hb⟩ := pDot_form h1
      cases e : tk "(" r1 with
      | none =>
        simp only [e] at h2
        cases h2
        rw [col_mk ha hb]; rfl
      | some r2 =>
        simp only [e] at h2
        cases k with
        | zero => cases h2
        | succ k =>
          obtain ⟨⟨t1, r3⟩, h3, h4⟩ := Option.bind_eq_some_iff.mp h2
          have f1 := pTerm_form h3
          cases e4 : tk ", " r3 with
          | none =>
            simp only [e4] at h4
            obtain ⟨r6, _, h6⟩ := Option.map_eq_some_iff.mp h4
            cases h6
            rw [call_mk (ts := [t1]) ha hb (Nat.le_refl 1) (Nat.le_succ 1) fun t ht => by rw [List.mem_singleton.mp ht]; exact f1, Bool.or_true]
          | some r4 =>
            simp only [e4] at h4
            obtain ⟨⟨t2, r5⟩, h5, h6⟩ := Option.bind_eq_some_iff.mp h4
            have f2 := pTerm_form h5
            obtain ⟨r6, _, h7⟩ := Option.map_eq_some_iff.mp h6
            cases h7
            rw [call_mk (ts := [t1, t2]) ha hb (Nat.le_succ 1) (Nat.le_refl 2) fun t ht => by
              rcases List.mem_cons.mp ht with rfl | ht
              · exact f1
              · rw [List.mem_singleton.mp ht]; exact f2, Bool.or_true]
theorem fzTold1 {r r' : Cs} {d : PyData} (h : pTold1 r = some (d, r')) : Fz 5000 9 d := by
  unfold pTold1 at h
  obtain ⟨⟨t, r1⟩, h1, h2⟩ := Option.bind_eq_some_iff.mp h
  have ft := (fzTm 3 (pTerm_form h1)).mono (show zB 3 ≤ 4300 by decide) (show 2 * 3 + 1 ≤ 8 by decide)
  have c1 : Fz 85 8 (.str "column") := fzW (by decide) (by decide +kernel)
  have c2 : Fz 85 8 (.str "term") := fzW (by decide) (by decide +kernel)
  by_cases hc : colD t = true
  · simp only [hc, if_true] at h2
    cases e : tk " as " r1 with
    | none =>
      simp only [e] at h2
      cases h2
      obtain ⟨a, b, rfl, ha, hb⟩ := colE hc
      exact (c1.cons (ft.cons ((fzN hb).cons .nil))).tup.mono (by omega) (by omega)
    | some r2 =>
      simp only [e] at h2
      obtain ⟨⟨n, r3⟩, h3, h4⟩ := Option.map_eq_some_iff.mp h2
      cases h4
      exact (c1.cons (ft.cons ((fzN (pName_form h3)).cons .nil))).tup.mono (by omega) (by omega)
  · simp only [hc] at h2
    obtain ⟨r2, _, h2⟩ := Option.bind_eq_some_iff.mp h2
    obtain ⟨⟨n, r3⟩, h3, h4⟩ := Option.map_eq_some_iff.mp h2
    cases h4
    exact (c2.cons (ft.cons ((fzN (pName_form h3)).cons .nil))).tup.mono (by omega) (by omega)
theorem fzTold {r r' : Cs} {d : PyData} (h : pTold r = some (d, r')) : Fz 5000 9 d := by
  unfold pTold at h
  split at h
  · exact fzTold1 h
  · obtain ⟨⟨n, r1⟩, h1, h2⟩ := Option.bind_eq_some_iff.mp h
    cases e : tk ".*" r1 with
    | none => simp only [e] at h2; exact fzTold1 h2
    | some r2 =>
      simp only [e] at h2
      cases h2
      have c1 : Fz 85 8 (.str "star") := fzW (by decide) (by decide +kernel)
      exact (c1.cons ((fzN (pName_form h1)).cons .nil)).tup.mono (by omega) (by omega)
theorem fzSource {r r' : Cs} {d : PyData} (h : pSource r = some (d, r')) : Fz 5000 9 d := by
  unfold pSource at h
  obtain ⟨⟨⟨a, b⟩, r1⟩, h1, h2⟩ := Option.bind_eq_some_iff.mp h
  obtain ⟨ha, hb⟩ := pDot_form h1
  have f3 : ∀ {l : PyData}, namD l = true → Fz 5000 9 (.tuple [a, b, l]) := fun hl => ((fzO ha).cons (k := 8) ((fzN hb).cons ((fzN hl).cons .nil))).tup.mono (by omega) (by omega)
  split at h2
  · cases h2; exact f3 hb
  · cases e : tk " " r1 with
    | none => simp only [e] at h2; cases h2; exact f3 hb
    | some r2 =>
      simp only [e] at h2
      obtain ⟨⟨n, r3⟩, h3, h4⟩ := Option.map_eq_some_iff.mp h2
      cases h4
      exact f3 (pName_form h3)
theorem pMore_form {p : Cs → Option (PyData × Cs)} {sep : Str} {ok : PyData → Prop} (hp : ∀ {r r' d}, p r = some (d, r') → ok d) : ∀ {n : Nat} {r r' : Cs} {ds : List PyData}, pMore p sep n r = some (ds, r') → ds.length ≤ n ∧ ∀ d ∈ ds, ok d
  | n, r, r', ds, h => by
    unfold pMore at h
    cases e : tk sep r with
    | none =>
      simp only [e] at h
      cases h
      exact ⟨Nat.zero_le _, fun d hd => by cases hd⟩
    | some r1 =>
      simp only [e] at h
      cases n with
      | zero => cases h
      | succ n =>
        obtain ⟨⟨d, r2⟩, h1, h2⟩ := Option.bind_eq_some_iff.mp h
        obtain ⟨⟨es, r3⟩, h3, h4⟩ := Option.map_eq_some_iff.mp h2
        cases h4
        obtain ⟨i1, i2⟩ := pMore_form hp h3
        refine ⟨Nat.succ_le_succ i1, fun x hx => ?_⟩
        rcases List.mem_cons.mp hx with rfl | hx
        · exact hp h1
        · exact i2 x hx
theorem pList_form {p : Cs → Option (PyData × Cs)} {sep : Str} {ok : PyData → Prop} (hp : ∀ {r r' d}, p r = some (d, r') → ok d) {n : Nat} {r r' : Cs} {ds : List PyData} (hn : 1 ≤ n) (h : pList p sep n r = some (ds, r')) : ds.length ≤ n ∧ ∀ d ∈ ds, ok d := by
  unfold pList at h
  obtain ⟨⟨d, r2⟩, h1, h2⟩ := Option.bind_eq_some_iff.mp h
  obtain ⟨⟨es, r3⟩, h3, h4⟩ := Option.map_eq_some_iff.mp h2
  cases h4
  obtain ⟨i1, i2⟩ := pMore_form hp h3
  refine ⟨by show es.length + 1 ≤ n; omega, fun x hx => ?_⟩
  rcases List.mem_cons.mp hx with rfl | hx
  · exact hp h1
  · exact i2 x hx
theorem fzCond {r r' : Cs} {d : PyData} (h : pCond r = some (d, r')) : Fz 5000 9 d := by
  unfold pCond at h
  obtain ⟨⟨⟨a, b⟩, r1⟩, h1, h2⟩ := Option.bind_eq_some_iff.mp h
  obtain ⟨ha, hb⟩ := pDot_form h1
  have c1 : Fz 85 8 (.str "equal") := fzW (by decide) (by decide +kernel)
  have c2 : Fz 85 8 (.str "in") := fzW (by decide) (by decide +kernel)
  cases e : tk " = " r1 with
  | some r2 =>
    simp only [e] at h2
    obtain ⟨⟨⟨c, d⟩, r3⟩, h3, h4⟩ := Option.map_eq_some_iff.mp h2
    cases h4
    obtain ⟨hc, hd⟩ := pDot_form h3
    exact (c1.cons ((fzC (k := 7) (col_mk ha hb)).cons ((fzC (k := 7) (col_mk hc hd)).cons .nil))).tup.mono (by omega) (by omega)
  | none =>
    simp only [e] at h2
    obtain ⟨r2, _, h2⟩ := Option.bind_eq_some_iff.mp h2
    obtain ⟨⟨vs, r3⟩, h3, h4⟩ := Option.bind_eq_some_iff.mp h2
    obtain ⟨r4, _, h5⟩ := Option.map_eq_some_iff.mp h4
    cases h5
    obtain ⟨i1, i2⟩ := pList_form (ok := fun d => valD d = true) (fun h => pVal_form h) (by decide) h3
    have fv : FzL (8 * (85 + 2)) 7 vs := FzL.of i1 fun d hd => by obtain ⟨z, rfl, hz⟩ := valE (i2 d hd); exact fzV hz
    exact (c2.cons ((fzC (k := 7) (col_mk ha hb)).cons (fv.tup.cons .nil))).tup.mono (by omega) (by omega)
theorem fzStmt {r r' : Cs} {d : PyData} (h : pStmt r = some (d, r')) : okS d = true := by
  unfold pStmt at h
  obtain ⟨r1, _, h⟩ := Option.bind_eq_some_iff.mp h
  obtain ⟨⟨ts, r2⟩, h2, h3⟩ := Option.bind_eq_some_iff.mp h
  obtain ⟨a1, a2⟩ := pList_form (ok := Fz 5000 9) (fun h => fzTold h) (by decide) h2
  unfold pTail at h3
  obtain ⟨r4, _, h3⟩ := Option.bind_eq_some_iff.mp h3
  obtain ⟨⟨ss, r5⟩, h5, h6⟩ := Option.bind_eq_some_iff.mp h3
  obtain ⟨b1, b2⟩ := pList_form (ok := Fz 5000 9) (fun h => fzSource h) (by decide) h5
  have fin : ∀ {b : Bool} {cc : List PyData}, cc.length ≤ 8 → (∀ d ∈ cc, Fz 5000 9 d) → okS (.tuple [.bool b, .tuple ts, .tuple ss, .tuple cc]) = true := fun {b cc} c1 c2 => by
    have fb : Fz 5 10 (.bool b) := ⟨rfl, by show 5 ≤ 5; decide, Nat.zero_le _⟩
    exact ((fb.cons ((FzL.of a1 a2).tup.cons ((FzL.of b1 b2).tup.cons ((FzL.of c1 c2).tup.cons .nil)))).tup).okS (by decide) (by decide)
  cases e : tk " where " r5 with
  | none =>
    simp only [e] at h6
    cases h6
    exact fin (by decide) fun d hd => by cases hd
  | some r6 =>
    simp only [e] at h6
    obtain ⟨⟨cc, r7⟩, h7, h8⟩ := Option.map_eq_some_iff.mp h6
    cases h8
    obtain ⟨c1, c2⟩ := pList_form (ok := Fz 5000 9) (fun h => fzCond h) (by decide) h7
    exact fin c1 c2
/-- what take_statement takes: a statement that is written so -/
def pStmtC (r : Cs) : Option (PyData × Cs) := (pStmt r).bind fun x => if stD x.1 = true ∧ cs (writeT x.1) = r.take (r.length - x.2.length) then some x else none
def pRead (z : Str) : Option PyData := (pStmtC (cs z)).bind fun x => if x.2 = [] then some x.1 else none
/-- what was written is read -/
theorem pRead_write {d : PyData} (h : stD d = true) : pRead (writeT d) = some d := by
  unfold pRead pStmtC
  rw [pStmt_cat h]
  simp only [Option.bind_some]
  rw [if_pos ⟨h, by rw [List.length_nil, Nat.sub_zero, List.take_length]⟩]
  simp
end My
namespace My
open PySem PySem.Spec PyProof.Rows L2
mutual
theorem DT.dg {S : Addr → Prop} {H : Hp} : ∀ {v : V} {d : PyData}, DT H v d → DG S H v d
  | _, _, .non => .non
  | _, _, .bl b => .bl b
  | _, _, .int i => .int i
  | _, _, .str x => .str x
  | _, _, .tup h hs => .tup h (DTs.dgs hs)
theorem DTs.dgs {S : Addr → Prop} {H : Hp} : ∀ {vs : List V} {ds : List PyData}, DTs H vs ds → DGs S H vs ds
  | _, _, .nil => .nil
  | _, _, .cons h hs => .cons (DT.dg h) (DTs.dgs hs)
end
end My

namespace K13R
open PySem PySem.Spec PyProof.Rows L2 My
def top (i : Nat) : Stmt := PySem.Challenge.pw_boundonce_k13_texts_typed.main.body.getD i (.Pass ⟨0, 0, 0, 0⟩)
abbrev sRInit : Stmt := inClass (top 17) 0
abbrev sSees : Stmt := inClass (top 17) 1
abbrev sTakes : Stmt := inClass (top 17) 2
abbrev sMust : Stmt := inClass (top 17) 3
abbrev sWord : Stmt := inClass (top 17) 4
abbrev sRName : Stmt := inClass (top 17) 5
abbrev sRVal : Stmt := inClass (top 17) 6
abbrev sEnd : Stmt := inClass (top 17) 7
abbrev sRead : Stmt := top 39
abbrev sTakeSt : Stmt := top 40
abbrev sTakeList : Stmt := top 41
abbrev sTakeTold : Stmt := top 42
abbrev sTakeTerm : Stmt := top 43
abbrev sTakeDot : Stmt := top 44
abbrev sTakeSrc : Stmt := top 45
abbrev sTakeCond : Stmt := top 46
abbrev sTakeVal : Stmt := top 47
/-! ### the reader -/
theorem ta_ : ¬ (("at" : Str) = "text") := by decide +kernel
def rf (T : Str) (n : Int) : List (Str × V) := putF "at" (.int n) (putF "text" (.str T) [])
theorem rf_text (T : Str) (n : Int) : (rf T n).lookup ("text" : Str) = some (.str T) := by unfold rf; rw [lookup_putF, if_neg (fun e => ta_ e.symm), lookup_putF, if_pos rfl]
theorem rf_at (T : Str) (n : Int) : (rf T n).lookup ("at" : Str) = some (.int n) := by unfold rf; rw [lookup_putF, if_pos rfl]
theorem rf_no (T : Str) (n : Int) {m : Str} (h1 : ¬ m = "at") (h2 : ¬ m = "text") : (rf T n).lookup m = none := by unfold rf; rw [lookup_putF, if_neg h1, lookup_putF, if_neg h2]; rfl
theorem rf_eq (T : Str) (n : Int) : rf T n = ([("text", V.str T), ("at", V.int n)] : List (Str × V)) := by
  show (if ("text" : Str) = "at" then [(("text" : Str), V.int n)] else (("text" : Str), V.str T) :: putF "at" (V.int n) []) = ([("text", V.str T), ("at", V.int n)] : List (Str × V))
  rw [if_neg (fun e => ta_ e.symm)]
  rfl
theorem rf_put (T : Str) (n k : Int) : putF "at" (.int k) (rf T n) = rf T k := by
  rw [rf_eq, rf_eq]
  show (if ("text" : Str) = "at" then _ else (("text" : Str), V.str T) :: (if ("at" : Str) = "at" then [(("at" : Str), V.int k)] else _)) = ([("text", V.str T), ("at", V.int k)] : List (Str × V))
  rw [if_neg (fun e => ta_ e.symm), if_pos rfl]
theorem rf_len (T : Str) (n : Int) : (rf T n).length < 1000 := by rw [rf_eq]; show 2 < 1000; decide
/-- a reader of the text T stands at p; r is left to read -/
def RdAt (C : Addr) (H : Hp) (p : Addr) (T : Str) (r : Cs) : Prop := ∃ (dx : Addr) (n : Nat), H p = some (.ins C dx (rf T n)) ∧ n ≤ T.length ∧ (cs T).drop n = r ∧ T.length ≤ 1000000
theorem RdAt.eq {C : Addr} {H H' : Hp} {p : Addr} {T : Str} {r : Cs} (R : RdAt C H p T r) (e : H' p = H p) : RdAt C H' p T r := by
  obtain ⟨dx, n, a, b⟩ := R
  exact ⟨dx, n, e.trans a, b⟩
theorem RdAt.same {C : Addr} {H H' : Hp} {p : Addr} {T : Str} {r : Cs} (R : RdAt C H p T r) (e : Same H H') : RdAt C H' p T r := by
  obtain ⟨dx, n, a, b⟩ := R
  exact ⟨dx, n, e _ _ a, b⟩
theorem RdAt.but {C : Addr} {H H' : Hp} {p q : Addr} {T : Str} {r : Cs} (R : RdAt C H p T r) (e : But q H H') (n : p ≠ q) : RdAt C H' p T r := by
  obtain ⟨dx, k, a, b⟩ := R
  exact ⟨dx, k, e _ _ n a, b⟩
theorem RdAt.tups {C : Addr} {H H' : Hp} {p : Addr} {T : Str} {r : Cs} (R : RdAt C H p T r) (b : But p H H') : Tup H H' := by
  obtain ⟨dx, k, a, _⟩ := R
  exact fun c xs z => b _ _ (ne_of z a (fun q => by cases q)) z
theorem RdAt.ne {C : Addr} {H : Hp} {p q : Addr} {T : Str} {r : Cs} (R : RdAt C H p T r) (h : H q = none) : p ≠ q := by
  obtain ⟨dx, k, a, _⟩ := R
  exact ne_of_none a h
theorem RdAt.len {C : Addr} {H : Hp} {p : Addr} {T : Str} {r : Cs} (R : RdAt C H p T r) : r.length ≤ 1000000 := by
  obtain ⟨dx, k, _, h1, h2, h3⟩ := R
  rw [← h2, List.length_drop]
  have : (cs T).length = T.length := rfl
  omega
/-- the facts of the reader's class -/
structure Br (K : PySem.W.Frag) (mg : Str → Option Value) (C CI : Addr) : Prop where
  cl : Cls K C
  nT : NoAttr K C "text"
  nA : NoAttr K C "at"
  inv : ErrC K mg "InvalidText" CI
  len : mg "len" = none
  isi : mg "isinstance" = none
  str : mg "str" = none
  tuple : mg "tuple" = none
  letters : ∃ t, mg "LETTERS" = some (.str letters t)
  most : ∃ t, mg "MOST_LETTERS" = some (.int 8 t)
  mostV : ∃ t, mg "MOST_VALUES" = some (.int 8 t)
  mSources : ∃ t, mg "MOST_SOURCES" = some (.int 4 t)
  mTold : ∃ t, mg "MOST_TOLD" = some (.int 8 t)
  mCond : ∃ t, mg "MOST_CONDITIONS" = some (.int 8 t)
  mTerms : ∃ t, mg "MOST_TERMS" = some (.int 2 t)
  deepest : ∃ t, mg "DEEPEST_CALL" = some (.int 3 t)
/-! the promises -/
def spSees (C : Addr) : Sp := fun vs H Q _ => ∃ (p : Addr) (T : Str) (r : Cs) (s : Str), vs = [.ref p, .str s] ∧ RdAt C H p T r ∧ ∀ H', Same H H' → Q (.bl (tk s r).isSome) H'
def spTakes (C : Addr) : Sp := fun vs H Q _ => ∃ (p : Addr) (T : Str) (r : Cs) (s : Str), vs = [.ref p, .str s] ∧ RdAt C H p T r ∧ (∀ r', tk s r = some r' → ∀ H', But p H H' → RdAt C H' p T r' → Q (.bl true) H') ∧ (tk s r = none → ∀ H', Same H H' → Q (.bl false) H')
def spMust (C CI : Addr) : Sp := fun vs H Q E => ∃ (p : Addr) (T : Str) (r : Cs) (s : Str), vs = [.ref p, .str s] ∧ RdAt C H p T r ∧ (∀ r', tk s r = some r' → ∀ H', But p H H' → RdAt C H' p T r' → Q .non H') ∧ (tk s r = none → ∀ H', But p H H' → E (.ref CI) none H')
def spWord (C : Addr) : Sp := fun vs H Q _ => ∃ (p : Addr) (T : Str) (r : Cs), vs = [.ref p] ∧ RdAt C H p T r ∧ ∀ H', But p H H' → RdAt C H' p T (r.drop (wordOf r).length) → Q (.str (mkS (wordOf r))) H'
/-- a def that takes something by f -/
def spP (C CI : Addr) (f : Cs → Option (PyData × Cs)) : Sp := fun vs H Q E => ∃ (p : Addr) (T : Str) (r : Cs), vs = [.ref p] ∧ RdAt C H p T r ∧ (∀ d r', f r = some (d, r') → ∀ v H', But p H H' → RdAt C H' p T r' → DT H' v d → Q v H') ∧ (f r = none → ∀ H', But p H H' → E (.ref CI) none H')
def spEnd (C CI : Addr) : Sp := fun vs H Q E => ∃ (p : Addr) (T : Str) (r : Cs), vs = [.ref p] ∧ RdAt C H p T r ∧ (r = [] → ∀ H', Same H H' → Q .non H') ∧ (r ≠ [] → ∀ H', Same H H' → E (.ref CI) none H')
def spMk (C CI : Addr) : Sp := fun vs H Q E => ∃ (p dx : Addr) (v : V) (d : PyData) (S : Addr → Prop), vs = [.ref p, v] ∧ H p = some (.ins C dx []) ∧ DG S H v d ∧ (∀ T, d = .str T → T.length ≤ 1000000 ∧ ∀ H', But p H H' → RdAt C H' p T (cs T) → Q .non H') ∧ (isStr d = false → ∀ H', But p H H' → E (.ref CI) none H')
section
variable {X : Cx} {E : XK} {σ : L2.St} {H : Hp} {Q : VK} {pos apos p1 p2 : Pos} {x m s : Str} {C : Addr} {k j : Nat} {sp : Sp} {p : Addr} {T : Str} {r : Cs} {pl : Sem Bool}
/-- reader.m(), reader.m('s'), the reader in slot i -/
theorem e_rd0X (i : Nat) (c : MetN X.prog X.w X.K X.mg X.base (L2.CX X.prog X.w) k C m sp) (cl : Cls X.K C) (tk : Takes X fun cls d _ H => E cls d H) (hr : Room j X.A) (hk : k ≤ j) (hi : σ[i]? = some (some (.ref p))) (R : RdAt C H p T r) (h : sp [.ref p] H Q E) (h1 : ¬ m = "at" := by decide +kernel) (h2 : ¬ m = "text" := by decide +kernel)
    (hN : X.N[i]? = some x := by rfl) (hv : Vis X.env.scope x := by first | exact Or.inl rfl | exact Or.inr (Or.inl rfl) | exact Or.inr (Or.inr rfl)) (hd : (x == ("__debug__" : Str)) = false := by decide) (hcd : (x == ("__classdict__" : Str)) = false := by decide)
    (ht : eval (.Call (.Attribute (.Name x p1) m apos) [] [] pos) X.env = (do
      let ov ← eval (.Name x p1) X.env
      standAt apos.atName
      let (f, first) ← holding [ov] (getMethod ov m pl)
      callWith pos f first (backTo pos (starEach [] X.env)) (backToKw pos (keywordEach [] X.env))) := by rfl) : WE X (.Call (.Attribute (.Name x p1) m apos) [] [] pos) σ H Q := by
  obtain ⟨dx, n, hp, _⟩ := R
  exact e_mX0 c cl tk hr hk (e_var i hi ⟨p, dx, _, rfl, hp, rf_no _ _ h1 h2, h⟩ hN hv hd hcd) ht
theorem e_rd0N (i : Nat) (c : MetN X.prog X.w X.K X.mg X.base CX0 k C m sp) (cl : Cls X.K C) (hr : Room j X.A) (hk : k ≤ j) (hi : σ[i]? = some (some (.ref p))) (R : RdAt C H p T r) (h : sp [.ref p] H Q E0) (h1 : ¬ m = "at" := by decide +kernel) (h2 : ¬ m = "text" := by decide +kernel)
    (hN : X.N[i]? = some x := by rfl) (hv : Vis X.env.scope x := by first | exact Or.inl rfl | exact Or.inr (Or.inl rfl) | exact Or.inr (Or.inr rfl)) (hd : (x == ("__debug__" : Str)) = false := by decide) (hcd : (x == ("__classdict__" : Str)) = false := by decide)
    (ht : eval (.Call (.Attribute (.Name x p1) m apos) [] [] pos) X.env = (do
      let ov ← eval (.Name x p1) X.env
      standAt apos.atName
      let (f, first) ← holding [ov] (getMethod ov m pl)
      callWith pos f first (backTo pos (starEach [] X.env)) (backToKw pos (keywordEach [] X.env))) := by rfl) : WE X (.Call (.Attribute (.Name x p1) m apos) [] [] pos) σ H Q := by
  obtain ⟨dx, n, hp, _⟩ := R
  exact e_mN0 c cl hr hk (e_var i hi ⟨p, dx, _, rfl, hp, rf_no _ _ h1 h2, h⟩ hN hv hd hcd) ht
theorem e_rd1X (i : Nat) {e : Expr} (c : MetN X.prog X.w X.K X.mg X.base (L2.CX X.prog X.w) k C m sp) (cl : Cls X.K C) (tk : Takes X fun cls d _ H => E cls d H) (hr : Room j X.A) (hk : k ≤ j) (hi : σ[i]? = some (some (.ref p))) (R : RdAt C H p T r) (h : WA X [e] σ H fun vs H2 => sp (.ref p :: vs) H2 Q E) (h1 : ¬ m = "at" := by decide +kernel) (h2 : ¬ m = "text" := by decide +kernel)
    (hN : X.N[i]? = some x := by rfl) (hv : Vis X.env.scope x := by first | exact Or.inl rfl | exact Or.inr (Or.inl rfl) | exact Or.inr (Or.inr rfl)) (hd : (x == ("__debug__" : Str)) = false := by decide) (hcd : (x == ("__classdict__" : Str)) = false := by decide)
    (hst : starEach [e] X.env = (false, eval e X.env) :: starEach [] X.env := by rfl) (hpl : (backTo pos (starEach [] X.env)).any (·.1) = false := by rfl)
    (ht : eval (.Call (.Attribute (.Name x p1) m apos) [e] [] pos) X.env = (do
      let ov ← eval (.Name x p1) X.env
      standAt apos.atName
      let (f, first) ← holding [ov] (getMethod ov m pl)
      callWith pos f first (backTo pos (starEach [e] X.env)) (backToKw pos (keywordEach [] X.env))) := by rfl) : WE X (.Call (.Attribute (.Name x p1) m apos) [e] [] pos) σ H Q := by
  obtain ⟨dx, n, hp, _⟩ := R
  exact e_mX c cl tk hr hk (e_var i hi ⟨p, dx, _, rfl, hp, rf_no _ _ h1 h2, h⟩ hN hv hd hcd) hst hpl ht
theorem e_rd1N (i : Nat) {e : Expr} (c : MetN X.prog X.w X.K X.mg X.base CX0 k C m sp) (cl : Cls X.K C) (hr : Room j X.A) (hk : k ≤ j) (hi : σ[i]? = some (some (.ref p))) (R : RdAt C H p T r) (h : WA X [e] σ H fun vs H2 => sp (.ref p :: vs) H2 Q E0) (h1 : ¬ m = "at" := by decide +kernel) (h2 : ¬ m = "text" := by decide +kernel)
    (hN : X.N[i]? = some x := by rfl) (hv : Vis X.env.scope x := by first | exact Or.inl rfl | exact Or.inr (Or.inl rfl) | exact Or.inr (Or.inr rfl)) (hd : (x == ("__debug__" : Str)) = false := by decide) (hcd : (x == ("__classdict__" : Str)) = false := by decide)
    (hst : starEach [e] X.env = (false, eval e X.env) :: starEach [] X.env := by rfl) (hpl : (backTo pos (starEach [] X.env)).any (·.1) = false := by rfl)
    (ht : eval (.Call (.Attribute (.Name x p1) m apos) [e] [] pos) X.env = (do
      let ov ← eval (.Name x p1) X.env
      standAt apos.atName
      let (f, first) ← holding [ov] (getMethod ov m pl)
      callWith pos f first (backTo pos (starEach [e] X.env)) (backToKw pos (keywordEach [] X.env))) := by rfl) : WE X (.Call (.Attribute (.Name x p1) m apos) [e] [] pos) σ H Q := by
  obtain ⟨dx, n, hp, _⟩ := R
  exact e_mN c cl hr hk (e_var i hi ⟨p, dx, _, rfl, hp, rf_no _ _ h1 h2, h⟩ hN hv hd hcd) hst hpl ht
end
section
variable {P : Program} {w : World} {K : PySem.W.Frag} {mg : Str → Option Value} {base : Heap} {C CI : Addr}
theorem scSees : FnScope ["self", "sign"] ["self", "sign"] (defScope sSees) := ⟨rfl, rfl, rfl, by decide +kernel, rfl, by decide +kernel, by decide +kernel⟩
theorem ok_sees {f : Addr} {fd : FuncData} (F : Fun K "sees" "Reader.sees" sSees f fd) (G : Br K mg C CI) : FnOk P w K mg base CX0 1 f fd ["self", "sign"] (spSees C) := by
  refine Fun.okW F scSees (fun vs H Q E h => by obtain ⟨p, T, r, s, rfl, _⟩ := h; rfl) (fun cdv B out s H vs Q E hr h => ?_)
  obtain ⟨p, T, r, z, rfl, ⟨dx, n, hp, hn, er, hT⟩, q⟩ := h
  refine l_one (s_ret (e_starts (e_fld (e_var 0 rfl ⟨p, C, dx, _, _, rfl, hp, G.cl, G.nT, rf_text _ _, ⟨T, rfl⟩, e_var 1 rfl (e_fld (e_var 0 rfl ⟨p, C, dx, _, _, rfl, hp, G.cl, G.nA, rf_at _ _, T, z, n, rfl, rfl, rfl, ?_⟩))⟩))))
  rw [starts_eq hn, er]
  exact q H (Same.refl _)
theorem scTakes : FnScope ["self", "sign"] ["self", "sign"] (defScope sTakes) := ⟨rfl, rfl, rfl, by decide +kernel, rfl, by decide +kernel, by decide +kernel⟩
theorem tk_some {s : Str} {r r' : Cs} (h : tk s r = some r') : s.length ≤ r.length ∧ r' = r.drop s.length := by
  unfold tk at h
  split at h
  · rename_i hp
    obtain ⟨u, e⟩ := List.isPrefixOf_iff_prefix.mp hp
    refine ⟨?_, (Option.some.inj h).symm⟩
    rw [← e, List.length_append]
    exact Nat.le_add_right _ _
  · cases h
theorem RdAt.step {H' : Hp} {p dx : Addr} {T : Str} {r : Cs} {n k : Nat} (hn : n ≤ T.length) (er : (cs T).drop n = r) (hT : T.length ≤ 1000000) (hk : k ≤ r.length) (e : H' p = some (.ins C dx (rf T ((n + k : Nat) : Int)))) : RdAt C H' p T (r.drop k) := by
  refine ⟨dx, n + k, e, ?_, by rw [← er, List.drop_drop], hT⟩
  rw [← er, List.length_drop] at hk
  have : (cs T).length = T.length := rfl
  omega
theorem ok_takes {f : Addr} {fd : FuncData} (F : Fun K "takes" "Reader.takes" sTakes f fd) (G : Br K mg C CI) (cS : MetN P w K mg base CX0 1 C "sees" (spSees C)) : FnOk P w K mg base CX0 2 f fd ["self", "sign"] (spTakes C) := by
  refine Fun.okW F scTakes (fun vs H Q E h => by obtain ⟨p, T, r, s, rfl, _⟩ := h; rfl) (fun cdv B out s H vs Q E hr h => ?_)
  obtain ⟨p, T, r, z, rfl, R, q1, q2⟩ := h
  refine l_cons (s_if (t_not (t_val (e_rd1N 0 cS G.cl hr (Nat.le_refl _) rfl R (a_cons (e_var 1 rfl (a_nil ⟨p, T, r, z, rfl, R, fun H1 s1 => ⟨_, rfl, ?_⟩⟩)))))))
  cases e : tk z r with
  | none => exact ⟨fun _ => l_one (s_ret (e_bl (q2 e H1 s1))), fun h => by cases h⟩
  | some r' =>
    refine ⟨(fun h => by cases h), fun _ => l_nil ?_⟩
    obtain ⟨dx, n, hp, hn, er, hT⟩ := R
    obtain ⟨l1, e2⟩ := tk_some e
    have l2 : z.length ≤ sizeLine := by
      rw [← er, List.length_drop] at l1
      have : (cs T).length = T.length := rfl
      exact Nat.le_trans (show z.length ≤ 1000000 by omega) (by decide)
    refine l_cons (s_fldadd (e_var 0 rfl ⟨p, C, dx, _, _, rfl, s1 _ _ hp, G.cl, G.nA, rf_at _ _, e_lenS G.len (e_var 1 rfl ⟨z, rfl, l2, _, _, rfl, rfl, dx, _, s1 _ _ hp, rf_len _ _, ?_⟩)⟩))
    refine l_one (s_ret (e_bl ?_))
    refine q1 r' e _ (fun b o nb eb => by rw [upd_ne nb]; exact s1 _ _ eb) ?_
    rw [e2]
    refine RdAt.step (n := n) hn er hT l1 (by rw [upd_same, rf_put]; rfl)
theorem scMust : FnScope ["self", "sign"] ["self", "sign"] (defScope sMust) := ⟨rfl, rfl, rfl, by decide +kernel, rfl, by decide +kernel, by decide +kernel⟩
theorem ok_must {f : Addr} {fd : FuncData} (F : Fun K "must_take" "Reader.must_take" sMust f fd) (G : Br K mg C CI) (cT : MetN P w K mg base CX0 2 C "takes" (spTakes C)) : FnOk P w K mg base (L2.CX P w) 3 f fd ["self", "sign"] (spMust C CI) := by
  refine Fun.okXW F scMust (fun vs H Q E h => by obtain ⟨p, T, r, s, rfl, _⟩ := h; rfl) (fun cdv B out s H vs Q E hr tx po h => ?_)
  obtain ⟨p, T, r, z, rfl, R, q1, q2⟩ := h
  refine l_one (s_if (t_not (t_val (e_rd1N 0 cT G.cl hr (Nat.le_refl _) rfl R (a_cons (e_var 1 rfl (a_nil ⟨p, T, r, z, rfl, R, fun r' e H1 b1 R1 => ⟨_, rfl, ?_⟩, fun e H1 s1 => ⟨_, rfl, ?_⟩⟩)))))))
  · exact ⟨(fun h => by cases h), fun _ => l_nil (q1 r' e H1 b1 R1)⟩
  · exact ⟨fun _ => l_one (s_raise G.inv tx (q2 e H1 (But.of s1))), fun h => by cases h⟩
theorem scWord : FnScope ["self", "start", "end"] ["self"] (defScope sWord) := ⟨rfl, rfl, rfl, by decide +kernel, rfl, by decide +kernel, by decide +kernel⟩
theorem word_len (r : Cs) : (wordOf r).length ≤ 9 ∧ (wordOf r).length ≤ r.length := by
  unfold wordOf
  have h1 := (List.takeWhile_prefix (p := lowC) (l := r.take 9)).length_le
  rw [List.length_take] at h1
  omega
theorem word_take (r : Cs) : wordOf r = r.take (wordOf r).length := by
  have h := List.prefix_iff_eq_take.mp ((List.takeWhile_prefix (p := lowC) (l := r.take 9)).trans (List.take_prefix 9 r))
  exact h
/-- the sign at a place of the word, and behind it -/
theorem word_at {r : Cs} {k : Nat} (h : k ≤ (wordOf r).length) : k < (wordOf r).length ↔ ∃ c, r[k]? = some c ∧ k ≤ 8 ∧ lowC c = true := by
  have e1 : ∀ {l : Cs} {k : Nat}, k ≤ (l.takeWhile lowC).length → (k < (l.takeWhile lowC).length ↔ ∃ c, l[k]? = some c ∧ lowC c = true) := by
    intro l
    induction l with
    | nil => intro k h; simp
    | cons c l ih =>
      intro k h
      by_cases hc : lowC c = true
      · rw [List.takeWhile_cons_of_pos hc] at h ⊢
        cases k with
        | zero => simp [hc]
        | succ k =>
          have := ih (k := k) (by simpa using h)
          simpa using this
      · rw [List.takeWhile_cons_of_neg hc] at h ⊢
        have hk : k = 0 := by simpa using h
        subst hk
        simp [hc]
  have := e1 (l := r.take 9) h
  rw [show (wordOf r).length = ((r.take 9).takeWhile lowC).length from rfl, this]
  constructor
  · rintro ⟨c, h1, h2⟩
    rw [List.getElem?_take] at h1
    split at h1
    · exact ⟨c, h1, by omega, h2⟩
    · cases h1
  · rintro ⟨c, h1, h2, h3⟩
    exact ⟨c, by rw [List.getElem?_take, if_pos (by omega)]; exact h1, h3⟩
theorem ok_word {f : Addr} {fd : FuncData} (F : Fun K "take_word" "Reader.take_word" sWord f fd) (G : Br K mg C CI) : FnOk P w K mg base CX0 1 f fd ["self"] (spWord C) := by
  refine Fun.okW F scWord (fun vs H Q E h => by obtain ⟨p, T, r, rfl, _⟩ := h; rfl) (fun cdv B out s H vs Q E hr h => ?_)
  obtain ⟨p, T, r, rfl, ⟨dx, n, hp, hn, er, hT⟩, q⟩ := h
  obtain ⟨t8, m8⟩ := G.most
  obtain ⟨tl, ml⟩ := G.letters
  obtain ⟨w1, w2⟩ := word_len r
  have lr : r.length = T.length - n := by rw [← er, List.length_drop]; rfl
  have hL : T.length ≤ sizeLine := Nat.le_trans hT (by decide)
  refine l_cons (s_set 1 (e_fld (e_var 0 rfl ⟨p, C, dx, _, _, rfl, hp, G.cl, G.nA, rf_at _ _, ?_⟩)) scWord.nd)
  refine l_cons (s_set 2 (e_var 1 rfl ?_) scWord.nd)
  have fin : ∀ k, k ≤ (wordOf r).length → ¬ k < (wordOf r).length → WL (cxOf CX0 P w K mg base ["self", "start", "end"] "Reader.take_word" (defScope sWord) f cdv B out s H E).nox (((defBody sWord).drop 3)) { nx := fun _ H' => Q .non H', rt := Q } [some (.ref p), some (.int n), some (.int ((n + k : Nat) : Int))] H := fun k hk nk => by
    have ek : k = (wordOf r).length := by omega
    refine l_cons (s_fld (e_var 2 rfl (e_var 0 rfl ⟨p, C, dx, _, rfl, hp, G.cl, G.nA, rf_len _ _, ?_⟩)))
    refine l_one (s_ret (e_slS (e_fld (e_var 0 rfl ⟨p, C, dx, _, _, rfl, upd_same, G.cl, G.nT, by rw [rf_put]; exact rf_text _ _, e_var 1 rfl ⟨_, rfl, e_var 2 rfl ⟨T, _, rfl, rfl, hL, ?_⟩⟩⟩))))
    have ec : cutS T (some (n : Int)) (some ((n + k : Nat) : Int)) = mkS (wordOf r) := by
      unfold cutS mkS
      rw [HT.sIx_nat, HT.sIx_nat, Nat.min_eq_left hn, Nat.min_eq_left (show n + k ≤ T.length by omega), Nat.add_sub_cancel_left]
      rw [show T.cps.toList.drop n = r from er, ek, ← word_take r]
    rw [ec]
    refine q _ (fun b o nb eb => by rw [upd_ne nb]; exact eb) ?_
    rw [← ek]
    exact RdAt.step (n := n) hn er hT (by omega) (by rw [upd_same, rf_put])
  refine l_cons (s_while (fun σ H' => ∃ k : Nat, σ = [some (.ref p), some (.int n), some (.int ((n + k : Nat) : Int))] ∧ k ≤ (wordOf r).length ∧ H' = H) (fun σ _ => match σ with | [_, _, some (.int e)] => n + 20 - e.toNat | _ => 0) ⟨0, rfl, Nat.zero_le _, rfl⟩ ?_ PassesOwn.never)
  · rintro σ H' ⟨k, rfl, hk, rfl⟩
    refine t_w (w_and (t_lt (e_var 2 rfl (e_lenS G.len (e_fld (e_var 0 rfl ⟨p, C, dx, _, _, rfl, hp, G.cl, G.nT, rf_text _ _, T, rfl, hL, _, _, rfl, rfl, fun h1 => ?_, fun h1 => ?_⟩))))))
    · refine w_and (t_cmp op_le (e_subI (e_var 2 rfl (e_var 1 rfl ⟨_, _, rfl, rfl, e_glob (v := .int 8) m8 ⟨_, rfl⟩ ⟨_, _, rfl, rfl, _, rfl, fun h2 => ?_, fun h2 => ?_⟩⟩)))) 
      · have hlt : n + k < T.length := by have := of_decide_eq_true h1; omega
        have hk8 : k ≤ 8 := by have := of_decide_eq_true h2; omega
        obtain ⟨c, hc⟩ : ∃ c, r[k]? = some c := ⟨r[k]'(by omega), List.getElem?_eq_getElem (by omega)⟩
        have hcT : (cs T)[n + k]? = some c := by rw [← er, List.getElem?_drop] at hc; exact hc
        refine w_and1 (t_cmp op_in_sign (e_ixS (e_fld (e_var 0 rfl ⟨p, C, dx, _, _, rfl, hp, G.cl, G.nT, rf_text _ _, e_var 2 rfl ⟨T, _, c, rfl, rfl, hL, atI_nat hcT, e_glob (v := .str letters) ml ⟨_, rfl⟩ ⟨c, letters, rfl, rfl, _, rfl, ?_⟩⟩⟩))))
        have ec : decide (c ∈ letters.cps.toList) = lowC c := rfl
        rw [ec]
        have wa := word_at hk
        cases e : lowC c with
        | true =>
          rw [if_pos rfl]
          have lt := wa.mpr ⟨c, hc, hk8, e⟩
          refine l_one (s_augI 2 ⟨_, rfl, e_int ⟨_, rfl, ?_⟩⟩ scWord.nd)
          refine ⟨⟨k + 1, ?_, lt, rfl⟩, ?_⟩
          · rfl
          · show n + 20 - (((n + k : Nat) : Int) + 1).toNat < n + 20 - (((n + k : Nat) : Int)).toNat
            omega
        | false =>
          rw [if_neg Bool.false_ne_true]
          refine fin k hk ?_
          rintro lt
          obtain ⟨c', e1, _, e2⟩ := wa.mp lt
          rw [hc] at e1
          cases e1
          rw [e] at e2
          cases e2
      · rw [if_neg Bool.false_ne_true]
        refine fin k hk fun lt => ?_
        obtain ⟨c', e1, e2, _⟩ := (word_at hk).mp lt
        have := of_decide_eq_false h2
        omega
    · rw [if_neg Bool.false_ne_true]
      refine fin k hk fun lt => ?_
      have := of_decide_eq_false h1
      omega
end
end K13R

namespace K13R
open PySem PySem.Spec PyProof.Rows L2 My
section
variable {P : Program} {w : World} {K : PySem.W.Frag} {mg : Str → Option Value} {base : Heap} {C CI : Addr}
theorem okS_low {l : Cs} (h : l.all lowC = true) (n : l.length ≤ 100) : okS (.str (mkS l)) = true := by
  have e : cs (mkS l) = l := cs_mkS l
  have el : (mkS l).length = l.length := by show l.toArray.size = _; simp
  refine okS_iff.mpr ⟨?_, ?_, Nat.zero_le _⟩
  · show (decide ((mkS l).length ≤ 1000) && (cs (mkS l)).all fun c => decide (c < 128)) = true
    rw [e, el, decide_eq_true (show l.length ≤ 1000 by omega), Bool.true_and]
    exact List.all_eq_true.mpr fun c hc => decide_eq_true (lowC_3 c (List.all_eq_true.mp h c hc))
  · show 10 * (mkS l).length + 5 ≤ 1000000
    omega
theorem okS_word (r : Cs) : okS (.str (mkS (wordOf r))) = true := by
  refine okS_low ?_ (by have := (word_len r).1; omega)
  unfold wordOf
  exact List.all_eq_true.mpr fun c hc => by
    have : ∀ {l : Cs}, c ∈ l.takeWhile lowC → lowC c = true := by
      intro l
      induction l with
      | nil => intro h; cases h
      | cons d l ih =>
        intro h
        by_cases hd : lowC d = true
        · rw [List.takeWhile_cons_of_pos hd] at h
          rcases List.mem_cons.mp h with rfl | h
          · exact hd
          · exact ih h
        · rw [List.takeWhile_cons_of_neg hd] at h; cases h
    exact this hc
theorem scRName : FnScope ["self", "word"] ["self"] (defScope sRName) := ⟨rfl, rfl, rfl, by decide +kernel, rfl, by decide +kernel, by decide +kernel⟩
theorem ok_rname {f : Addr} {fd : FuncData} (F : Fun K "take_name" "Reader.take_name" sRName f fd) (G : Br K mg C CI) (cW : MetN P w K mg base CX0 1 C "take_word" (spWord C)) (cN : CalN P w K mg base 2 "is_name" (spB namD)) : FnOk P w K mg base (L2.CX P w) 3 f fd ["self"] (spP C CI pName) := by
  refine Fun.okXW F scRName (fun vs H Q E h => by obtain ⟨p, T, r, rfl, _⟩ := h; rfl) (fun cdv B out s H vs Q E hr tx po h => ?_)
  obtain ⟨p, T, r, rfl, R, q1, q2⟩ := h
  refine l_cons (s_set 1 (e_rd0N 0 cW G.cl hr (by decide) rfl R ⟨p, T, r, rfl, R, fun H1 b1 R1 => ?_⟩) scRName.nd)
  refine l_cons (s_if (t_not (t_val (e_c cN hr (Nat.le_refl _) (a_cons (e_var 1 rfl (a_nil ⟨fun _ => False, _, .str (mkS (wordOf r)), rfl, .str _, okS_word r, fun H2 s2 => ⟨_, rfl, ?_⟩⟩)))))))
  cases e : namD (.str (mkS (wordOf r))) with
  | true =>
    refine ⟨(fun h => by cases h), fun _ => l_nil ?_⟩
    exact l_one (s_ret (e_var 1 rfl (q1 _ _ (by unfold pName; rw [if_pos e]) _ _ (b1.trans (But.of s2)) (R1.same s2) (.str _))))
  | false => exact ⟨fun _ => l_one (s_raise G.inv tx (q2 (by unfold pName; rw [if_neg (by rw [e]; exact Bool.false_ne_true)]) _ (b1.trans (But.of s2)))), fun h => by cases h⟩
theorem scRVal : FnScope ["self", "word"] ["self"] (defScope sRVal) := ⟨rfl, rfl, rfl, by decide +kernel, rfl, by decide +kernel, by decide +kernel⟩
theorem ok_rval {f : Addr} {fd : FuncData} (F : Fun K "take_value" "Reader.take_value" sRVal f fd) (G : Br K mg C CI) (cM : MetN P w K mg base (L2.CX P w) 3 C "must_take" (spMust C CI)) (cW : MetN P w K mg base CX0 1 C "take_word" (spWord C)) (cV : CalN P w K mg base 1 "is_value" (spB valD)) :
    FnOk P w K mg base (L2.CX P w) 4 f fd ["self"] (spP C CI pVal) := by
  refine Fun.okXW F scRVal (fun vs H Q E h => by obtain ⟨p, T, r, rfl, _⟩ := h; rfl) (fun cdv B out s H vs Q E hr tx po h => ?_)
  obtain ⟨p, T, r, rfl, R, q1, q2⟩ := h
  refine l_cons (s_expr (e_rd1X 0 cM G.cl tx hr (Nat.le_refl _) rfl R (a_cons (e_str (a_nil ⟨p, T, r, _, rfl, R, fun r1 e1 H1 b1 R1 => ?_, fun e1 H1 b1 => q2 (by unfold pVal; rw [e1]; rfl) H1 b1⟩)))))
  refine l_cons (s_set 1 (e_rd0N 0 cW G.cl hr (by decide) rfl R1 ⟨p, T, r1, rfl, R1, fun H2 b2 R2 => ?_⟩) scRVal.nd)
  refine l_cons (s_if (t_not (t_val (e_c cV hr (by decide) (a_cons (e_var 1 rfl (a_nil ⟨fun _ => False, _, .str (mkS (wordOf r1)), rfl, .str _, okS_word r1, fun H3 s3 => ⟨_, rfl, ?_⟩⟩)))))))
  have b3 := (b1.trans b2).trans (But.of s3)
  have R3 := R2.same s3
  cases e : valD (.str (mkS (wordOf r1))) with
  | true =>
    refine ⟨(fun h => by cases h), fun _ => l_nil ?_⟩
    refine l_cons (s_expr (e_rd1X 0 cM G.cl tx hr (Nat.le_refl _) rfl R3 (a_cons (e_str (a_nil ⟨p, T, _, _, rfl, R3, fun r4 e4 H4 b4 R4 => ?_, fun e4 H4 b4 => q2 (by unfold pVal; simp only [e1, Option.bind_some, e, if_true, e4, Option.map_none]) H4 (b3.trans b4)⟩)))))
    exact l_one (s_ret (e_var 1 rfl (q1 _ _ (by unfold pVal; simp only [e1, Option.bind_some, e, if_true, e4, Option.map_some]) _ _ (b3.trans b4) R4 (.str _))))
  | false => exact ⟨fun _ => l_one (s_raise G.inv tx (q2 (by unfold pVal; simp only [e1, Option.bind_some, e, Bool.false_eq_true, if_false]) _ b3)), fun h => by cases h⟩
theorem scEnd : FnScope ["self"] ["self"] (defScope sEnd) := ⟨rfl, rfl, rfl, by decide +kernel, rfl, by decide +kernel, by decide +kernel⟩
theorem ok_end {f : Addr} {fd : FuncData} (F : Fun K "must_end" "Reader.must_end" sEnd f fd) (G : Br K mg C CI) : FnOk P w K mg base (L2.CX P w) 1 f fd ["self"] (spEnd C CI) := by
  refine Fun.okXW F scEnd (fun vs H Q E h => by obtain ⟨p, T, r, rfl, _⟩ := h; rfl) (fun cdv B out s H vs Q E hr tx po h => ?_)
  obtain ⟨p, T, r, rfl, ⟨dx, n, hp, hn, er, hT⟩, q1, q2⟩ := h
  have hL : T.length ≤ sizeLine := Nat.le_trans hT (by decide)
  have lr : r.length = T.length - n := by rw [← er, List.length_drop]; rfl
  refine l_one (s_if (t_ne (e_fld (e_var 0 rfl ⟨p, C, dx, _, _, rfl, hp, G.cl, G.nA, rf_at _ _, e_lenS G.len (e_fld (e_var 0 rfl ⟨p, C, dx, _, _, rfl, hp, G.cl, G.nT, rf_text _ _, T, rfl, hL, rfl, ?_⟩))⟩))))
  by_cases e : n = T.length
  · have e0 : decide (V.int (n : Int) = V.int (T.length : Int)) = true := by rw [e]; exact decide_eq_true rfl
    rw [e0]
    have er0 : r = [] := List.length_eq_zero_iff.mp (by omega)
    exact ⟨(fun h => by cases h), fun _ => l_nil (q1 er0 _ (Same.refl _))⟩
  · have e0 : decide (V.int (n : Int) = V.int (T.length : Int)) = false := decide_eq_false fun h => by injection h with h; exact e (by omega)
    rw [e0]
    have er0 : r ≠ [] := fun h => by rw [h] at lr; exact e (by simp at lr; omega)
    exact ⟨fun _ => l_one (s_raise G.inv tx (q2 er0 _ (Same.refl _))), fun h => by cases h⟩
theorem scRInit : FnScope ["self", "text"] ["self", "text"] (defScope sRInit) := ⟨rfl, rfl, rfl, by decide +kernel, rfl, by decide +kernel, by decide +kernel⟩
theorem ok_rinit {f : Addr} {fd : FuncData} (F : Fun K "__init__" "Reader.__init__" sRInit f fd) (G : Br K mg C CI) : FnOk P w K mg base (L2.CX P w) 1 f fd ["self", "text"] (spMk C CI) := by
  refine Fun.okXW F scRInit (fun vs H Q E h => by obtain ⟨p, dx, v, d, S, rfl, _⟩ := h; rfl) (fun cdv B out s H vs Q E hr tx po h => ?_)
  obtain ⟨p, dx, v, d, S, rfl, hp, hd, q1, q2⟩ := h
  refine l_cons (s_if (t_not (t_val (e_isi G.isi G.str PyProof.Rows.boot_str (e_var 1 rfl ⟨tyD d, isStr d, hd.ty, kit_str d, isStr d, rfl, ?_⟩)))))
  cases e : isStr d with
  | false => exact ⟨fun _ => l_one (s_raise G.inv tx (q2 e _ (But.refl _ _))), fun h => by cases h⟩
  | true =>
    refine ⟨(fun h => by cases h), fun _ => l_nil ?_⟩
    cases hd with
    | str z =>
      obtain ⟨hz, q⟩ := q1 z rfl
      refine l_cons (s_fld (e_var 1 rfl (e_var 0 rfl ⟨p, C, dx, [], rfl, hp, G.cl, G.nT, by show 0 < 1000; decide, ?_⟩)))
      refine l_one (s_fld (e_int (e_var 0 rfl ⟨p, C, dx, _, rfl, upd_same, G.cl, G.nA, by show 1 < 1000; decide, ?_⟩)))
      refine q _ (fun b o nb eb => by rw [upd_ne nb, upd_ne nb]; exact eb) ⟨dx, 0, by rw [upd_same]; rfl, Nat.zero_le _, rfl, hz⟩
    | _ => cases e
/-! the defs -/
def pDotT (r : Cs) : Option (PyData × Cs) := (pDot r).map fun x => (.tuple [x.1.1, x.1.2], x.2)
/-- a name behind a label -/
def spDt (C CI : Addr) : Sp := fun vs H Q E => ∃ (p : Addr) (T : Str) (r : Cs), vs = [.ref p] ∧ RdAt C H p T r ∧ (∀ a b r', pDot r = some ((a, b), r') → ∀ t v u H', But p H H' → RdAt C H' p T r' → H' t = some (.tup [v, u]) → DT H' v a → DT H' u b → Q (.ref t) H') ∧ (pDot r = none → ∀ H', But p H H' → E (.ref CI) none H')
theorem scTakeDot : FnScope ["reader", "name"] ["reader"] (defScope sTakeDot) := ⟨rfl, rfl, rfl, by decide +kernel, rfl, by decide +kernel, by decide +kernel⟩
theorem ok_tdot {f : Addr} {fd : FuncData} (F : Fun K "take_dotted" "take_dotted" sTakeDot f fd) (G : Br K mg C CI) (cN : MetN P w K mg base (L2.CX P w) 3 C "take_name" (spP C CI pName)) (cT : MetN P w K mg base CX0 2 C "takes" (spTakes C)) :
    FnOk P w K mg base (L2.CX P w) 4 f fd ["reader"] (spDt C CI) := by
  refine Fun.okXW F scTakeDot (fun vs H Q E h => by obtain ⟨p, T, r, rfl, _⟩ := h; rfl) (fun cdv B out s H vs Q E hr tx po h => ?_)
  obtain ⟨p, T, r, rfl, R, q1, q2⟩ := h
  refine l_cons (s_set 1 (e_rd0X 0 cN G.cl tx hr (Nat.le_refl _) rfl R ⟨p, T, r, rfl, R, fun d r1 e1 v1 H1 b1 R1 g1 => ?_, fun e1 H1 b1 => q2 (by unfold pDot; rw [e1]; rfl) H1 b1⟩) scTakeDot.nd)
  refine l_cons (s_if (t_val (e_rd1N 0 cT G.cl hr (by decide) rfl R1 (a_cons (e_str (a_nil ⟨p, T, r1, _, rfl, R1, fun r2 e2 H2 b2 R2 => ⟨_, rfl, ?_⟩, fun e2 H2 s2 => ⟨_, rfl, ?_⟩⟩))))))
  · refine ⟨fun _ => ?_, fun h => by cases h⟩
    refine l_one (s_ret (e_tup (a_cons (e_var 1 rfl (a_cons (e_rd0X 0 cN G.cl tx hr (Nat.le_refl _) rfl R2 ⟨p, T, r2, rfl, R2, fun d3 r3 e3 v3 H3 b3 R3 g3 => a_nil ⟨by show 2 ≤ sizeLine; decide, fun t ht => ?_⟩, fun e3 H3 b3 => q2 (by unfold pDot; simp only [e1, Option.bind_some, e2, e3, Option.map_none]) H3 ((b1.trans b2).trans b3)⟩))))))
    have s4 := same_new (o := .tup [v1, v3]) ht
    exact q1 d d3 r3 (by unfold pDot; simp only [e1, Option.bind_some, e2, e3, Option.map_some]) t v1 v3 _ (((b1.trans b2).trans b3).trans (But.of s4)) (R3.same s4) upd_same (g1.mono ((R1.tups (b2.trans b3)).trans (Same.tups s4))) (g3.mono (Same.tups s4))
  · refine ⟨(fun h => by cases h), fun _ => l_nil ?_⟩
    refine l_one (s_ret (e_tup (a_cons (e_non (a_cons (e_var 1 rfl (a_nil ⟨by show 2 ≤ sizeLine; decide, fun t ht => ?_⟩)))))))
    have s4 := s2.trans (same_new (o := .tup [V.non, v1]) ht)
    exact q1 .none d r1 (by unfold pDot; simp only [e1, Option.bind_some, e2]) t .non v1 _ (b1.trans (But.of s4)) (R1.same s4) upd_same .non (g1.mono (Same.tups s4))
theorem scTakeVal : FnScope ["reader"] ["reader"] (defScope sTakeVal) := ⟨rfl, rfl, rfl, by decide +kernel, rfl, by decide +kernel, by decide +kernel⟩
theorem ok_tval {f : Addr} {fd : FuncData} (F : Fun K "take_value" "take_value" sTakeVal f fd) (G : Br K mg C CI) (cV : MetN P w K mg base (L2.CX P w) 4 C "take_value" (spP C CI pVal)) : FnOk P w K mg base (L2.CX P w) 5 f fd ["reader"] (spP C CI pVal) := by
  refine Fun.okXW F scTakeVal (fun vs H Q E h => by obtain ⟨p, T, r, rfl, _⟩ := h; rfl) (fun cdv B out s H vs Q E hr tx po h => ?_)
  obtain ⟨p, T, r, rfl, R, q1, q2⟩ := h
  exact l_one (s_ret (e_rd0X 0 cV G.cl tx hr (Nat.le_refl _) rfl R ⟨p, T, r, rfl, R, fun d r1 e1 v1 H1 b1 R1 g1 => q1 d r1 e1 v1 H1 b1 R1 g1, fun e1 H1 b1 => q2 e1 H1 b1⟩))
/-- a list of things -/
def spList (P : Program) (w : World) (K : PySem.W.Frag) (mg : Str → Option Value) (base : Heap) (k : Nat) (C CI : Addr) : Sp := fun vs H Q E => ∃ (p g : Addr) (T : Str) (r : Cs) (sep : Str) (most : Nat) (f : Cs → Option (PyData × Cs)), vs = [.ref p, .ref g, .str sep, .int most] ∧ AtX P w K mg base k g (spP C CI f) ∧ 1 ≤ most ∧ most ≤ 100 ∧ RdAt C H p T r ∧
  (∀ ds r', pList f sep most r = some (ds, r') → ∀ v H', But p H H' → RdAt C H' p T r' → DT H' v (.tuple ds) → Q v H') ∧ (pList f sep most r = none → ∀ H', But p H H' → E (.ref CI) none H')
theorem scTakeList : FnScope ["reader", "take_one", "sign", "most", "found"] ["reader", "take_one", "sign", "most"] (defScope sTakeList) := ⟨rfl, rfl, rfl, by decide +kernel, rfl, by decide +kernel, by decide +kernel⟩
theorem But.new {p L : Addr} {H0 H1 H2 : Hp} (b : But p H0 H1) (hL : H1 L = none) (hp : L ≠ p) (e : ∀ b o, b ≠ p → b ≠ L → H1 b = some o → H2 b = some o) : But p H0 H2 := fun c o nc ec => by
  have e1 := b c o nc ec
  exact e c o nc (ne_of_none e1 hL) e1
def lstLen : Option HO → Nat
  | some (.lst xs) => xs.length
  | _ => 0
theorem ok_tlist {k : Nat} {f : Addr} {fd : FuncData} (F : Fun K "take_list" "take_list" sTakeList f fd) (G : Br K mg C CI) (cT : MetN P w K mg base CX0 2 C "takes" (spTakes C)) (hk : 2 ≤ k) : FnOk P w K mg base (L2.CX P w) (k + 1) f fd ["reader", "take_one", "sign", "most"] (spList P w K mg base k C CI) := by
  refine Fun.okXW F scTakeList (fun vs H Q E h => by obtain ⟨p, g, T, r, sep, most, f, rfl, _⟩ := h; rfl) (fun cdv B out s H vs Q E hr tx po h => ?_)
  obtain ⟨p, g, T, r, sep, most, f, rfl, aG, hm1, hm2, R, q1, q2⟩ := h
  refine l_cons (s_set 4 (e_lst (a_cons (e_xL 1 aG tx hr (Nat.le_refl _) rfl (a_cons (e_var 0 rfl (a_nil ⟨p, T, r, rfl, R, fun d r1 e1 v1 H1 b1 R1 g1 => a_nil ⟨by show 1 ≤ sizeLine; decide, fun L hL => ?_⟩, fun e1 H1 b1 => q2 (by unfold pList; rw [e1]; rfl) H1 b1⟩)))))) scTakeList.nd)
  have npL : p ≠ L := R1.ne hL
  have s2 := same_new (o := .lst [v1]) hL
  refine l_cons (s_while (fun σ H' => ∃ (xs : List V) (acc : List PyData) (r' : Cs), σ = [some (.ref p), some (.ref g), some (.str sep), some (.int most), some (.ref L)] ∧ (∀ b o, b ≠ p → b ≠ L → H1 b = some o → H' b = some o) ∧ RdAt C H' p T r' ∧ H' L = some (.lst xs) ∧ DTs H' xs acc ∧ 1 ≤ acc.length ∧ acc.length ≤ most ∧ pList f sep most r = (pMore f sep (most - acc.length) r').map fun y => (acc ++ y.1, y.2))
    (fun _ H' => most - lstLen (H' L)) ⟨[v1], [d], r1, rfl, fun b o n1 n2 e => s2 _ _ e, R1.same s2, upd_same, (DTs.cons g1 .nil).mono (Same.tups s2), Nat.le_refl _, hm1, by unfold pList; rw [e1]; rfl⟩ ?_ po)
  rintro σ H2 ⟨xs, acc, r2, rfl, k2, R2, hL2, gL, l1, l2, eq⟩
  have nLp : L ≠ p := npL.symm
  refine t_val (e_rd1N 0 cT G.cl hr hk rfl R2 (a_cons (e_var 2 rfl (a_nil ⟨p, T, r2, sep, rfl, R2, fun r3 e3 H3 b3 R3 => ⟨_, rfl, ?_⟩, fun e3 H3 s3 => ⟨_, rfl, ?_⟩⟩))))
  · -- another one
    rw [if_pos rfl]
    have hL3 := b3 _ _ nLp hL2
    have gL3 := gL.mono (R2.tups b3)
    have lxs := gL.length
    refine l_cons (s_if (t_eq (e_len G.len (e_var 4 rfl ⟨L, xs, rfl, .inl (.inl (.inl hL3)), e_var 3 rfl ⟨rfl, ?_⟩⟩))))
    by_cases e : acc.length = most
    · have e0 : decide (V.int (xs.length : Int) = V.int (most : Int)) = true := decide_eq_true (by rw [lxs, e])
      rw [e0]
      refine ⟨fun _ => l_one (s_raise G.inv tx (q2 ?_ _ (But.new b1 hL nLp fun b o n1 n2 eb => b3 _ _ n1 (k2 _ _ n1 n2 eb)))), fun h => by cases h⟩
      rw [eq, e, Nat.sub_self]
      unfold pMore
      rw [e3]; rfl
    · have e0 : decide (V.int (xs.length : Int) = V.int (most : Int)) = false := decide_eq_false fun h => by injection h with h; exact e (by omega)
      rw [e0]
      refine ⟨(fun h => by cases h), fun _ => l_nil ?_⟩
      obtain ⟨m, hm⟩ : ∃ m, most - acc.length = m + 1 := ⟨most - acc.length - 1, by omega⟩
      refine l_one (s_app (e_var 4 rfl ⟨⟨L, xs, rfl, .inl (.inl hL3)⟩, e_xL 1 aG tx hr (Nat.le_refl _) rfl (a_cons (e_var 0 rfl (a_nil ⟨p, T, r3, rfl, R3, fun d4 r4 e4 v4 H4 b4 R4 g4 => ?_, fun e4 H4 b4 => q2 ?_ H4 (But.new b1 hL nLp fun b o n1 n2 eb => b4 _ _ n1 (b3 _ _ n1 (k2 _ _ n1 n2 eb)))⟩)))⟩))
      · have hL4 := b4 _ _ nLp hL3
        have gL4 := gL3.mono (R3.tups b4)
        refine ⟨L, xs, rfl, hL4, Nat.lt_of_lt_of_le (show xs.length < 100 by omega) (by decide), ?_⟩
        have t5 : Tup H4 (upd H4 L (.lst (xs ++ [v4]))) := Tup.set hL4
        refine ⟨⟨xs ++ [v4], acc ++ [d4], r4, rfl, fun b o n1 n2 eb => by rw [upd_ne n2]; exact b4 _ _ n1 (b3 _ _ n1 (k2 _ _ n1 n2 eb)), R4.eq (upd_ne npL), upd_same, (gL4.snoc g4).mono t5, by rw [List.length_append]; exact Nat.le_trans l1 (Nat.le_add_right _ _), by rw [List.length_append]; show acc.length + 1 ≤ most; omega, ?_⟩, ?_⟩
        · rw [eq, hm]
          conv => lhs; unfold pMore
          rw [e3]
          have : most - (acc ++ [d4]).length = m := by rw [List.length_append]; show most - (acc.length + 1) = m; omega
          rw [this]
          simp only [e4, Option.bind_some, Option.map_map]
          congr 1
          funext y
          simp [List.append_assoc]
        · show most - lstLen (upd H4 L (.lst (xs ++ [v4])) L) < most - lstLen (H2 L)
          rw [upd_same, hL2]
          show most - (xs ++ [v4]).length < most - xs.length
          rw [List.length_append]
          show most - (xs.length + 1) < most - xs.length
          omega
      · rw [eq, hm]
        unfold pMore
        rw [e3]
        simp only [e4, Option.bind_none, Option.map_none]
  · -- the end
    rw [if_neg Bool.false_ne_true]
    have hL3 := s3 _ _ hL2
    refine l_one (s_ret (e_tupL G.tuple (e_var 4 rfl ⟨L, xs, rfl, .inl (.inl hL3), fun t ht => ?_⟩)))
    have s4 := s3.trans (same_new (o := .tup xs) ht)
    refine q1 acc r2 ?_ _ _ (But.new b1 hL nLp fun b o n1 n2 eb => s4 _ _ (k2 _ _ n1 n2 eb)) (R2.same s4) (.tup upd_same (gL.mono (Same.tups s4)))
    rw [eq]
    unfold pMore
    rw [e3]
    simp
end
end K13R

namespace K13R
open PySem PySem.Spec PyProof.Rows L2 My
section
variable {P : Program} {w : World} {K : PySem.W.Frag} {mg : Str → Option Value} {base : Heap} {C CI : Addr}
def spTm (C CI : Addr) (k : Nat) : Sp := fun vs H Q E => ∃ (p : Addr) (T : Str) (r : Cs), vs = [.ref p, .int k] ∧ RdAt C H p T r ∧ (∀ d r', pTerm k r = some (d, r') → ∀ v H', But p H H' → RdAt C H' p T r' → DT H' v d → Q v H') ∧ (pTerm k r = none → ∀ H', But p H H' → E (.ref CI) none H')
/-- what is left of a call behind its first terms -/
def restT (k : Nat) (a b : PyData) : List PyData → Cs → Option (PyData × Cs)
  | [t1], r => match tk ", " r with
    | some r4 => (pTerm k r4).bind fun t2 => (tk ")" t2.2).map fun r6 => (.tuple [.str "call", a, b, .tuple [t1, t2.1]], r6)
    | none => (tk ")" r).map fun r6 => (.tuple [.str "call", a, b, .tuple [t1]], r6)
  | acc, r => (tk ")" r).map fun r6 => (.tuple [.str "call", a, b, .tuple acc], r6)
theorem term_q {k : Nat} {r : Cs} (e : (tk "'" r).isSome = true) : pTerm k r = pVal r := by unfold pTerm; rw [if_pos e]
theorem term_n {k : Nat} {r : Cs} (e : (tk "'" r).isSome = false) (e1 : pDot r = none) : pTerm k r = none := by unfold pTerm; rw [if_neg (by rw [e]; exact Bool.false_ne_true), e1]; rfl
theorem term_c {k : Nat} {r r1 : Cs} {a b : PyData} (e : (tk "'" r).isSome = false) (e1 : pDot r = some ((a, b), r1)) (e2 : tk "(" r1 = none) : pTerm k r = some (.tuple [a, b], r1) := by
  unfold pTerm
  rw [if_neg (by rw [e]; exact Bool.false_ne_true), e1]
  simp only [Option.bind_some, e2]
theorem term_0 {r r1 r2 : Cs} {a b : PyData} (e : (tk "'" r).isSome = false) (e1 : pDot r = some ((a, b), r1)) (e2 : tk "(" r1 = some r2) : pTerm 0 r = none := by
  unfold pTerm
  rw [if_neg (by rw [e]; exact Bool.false_ne_true), e1]
  simp only [Option.bind_some, e2]
theorem term_s {k : Nat} {r r1 r2 : Cs} {a b : PyData} (e : (tk "'" r).isSome = false) (e1 : pDot r = some ((a, b), r1)) (e2 : tk "(" r1 = some r2) : pTerm (k + 1) r = (pTerm k r2).bind fun t1 => restT k a b [t1.1] t1.2 := by
  conv => lhs; unfold pTerm
  rw [if_neg (by rw [e]; exact Bool.false_ne_true), e1]
  simp only [Option.bind_some, e2]
  rfl
theorem scTakeTerm : FnScope ["reader", "deepest", "first", "name", "terms"] ["reader", "deepest"] (defScope sTakeTerm) := ⟨rfl, rfl, rfl, by decide +kernel, rfl, by decide +kernel, by decide +kernel⟩
theorem ok_tterm_step (k : Nat) (ih : ∀ j, k = j + 1 → CalX P w K mg base (j + 5) "take_term" (spTm C CI j)) {f : Addr} {fd : FuncData} (F : Fun K "take_term" "take_term" sTakeTerm f fd) (G : Br K mg C CI) (cS : MetN P w K mg base CX0 1 C "sees" (spSees C)) (cT : MetN P w K mg base CX0 2 C "takes" (spTakes C)) (cM : MetN P w K mg base (L2.CX P w) 3 C "must_take" (spMust C CI)) (cV : MetN P w K mg base (L2.CX P w) 4 C "take_value" (spP C CI pVal)) (cD : CalX P w K mg base 4 "take_dotted" (spDt C CI)) :
    FnOk P w K mg base (L2.CX P w) (k + 5) f fd ["reader", "deepest"] (spTm C CI k) := by
    refine Fun.okXW F scTakeTerm (fun vs H Q E h => by obtain ⟨p, T, r, rfl, _⟩ := h; rfl) (fun cdv B out s H vs Q E hr tx po h => ?_)
    obtain ⟨p, T, r, rfl, R, q1, q2⟩ := h
    refine l_cons (s_if (t_val (e_rd1N 0 cS G.cl hr (by omega) rfl R (a_cons (e_str (a_nil ⟨p, T, r, _, rfl, R, fun H1 s1 => ⟨_, rfl, ?_⟩⟩))))))
    cases e0 : (tk "'" r).isSome with
    | true =>
      refine ⟨fun _ => ?_, fun h => by cases h⟩
      exact l_one (s_ret (e_rd0X 0 cV G.cl tx hr (by omega) rfl (R.same s1) ⟨p, T, r, rfl, R.same s1, fun d r1 e1 v1 H2 b2 R2 g2 => q1 d r1 (by rw [term_q e0]; exact e1) v1 H2 ((But.of s1).trans b2) R2 g2, fun e1 H2 b2 => q2 (by rw [term_q e0]; exact e1) H2 ((But.of s1).trans b2)⟩))
    | false =>
      refine ⟨(fun h => by cases h), fun _ => l_nil ?_⟩
      refine l_cons (s_asg (pg_tup rfl (pgs_cons (pg_name (i := 2) scTakeTerm.nd rfl (.inl rfl)) (pgs_cons (pg_name (i := 3) scTakeTerm.nd rfl (.inl rfl)) pgs_nil))) (e_x cD tx hr (by omega) (a_cons (e_var 0 rfl (a_nil ⟨p, T, r, rfl, R.same s1, fun a b r1 e1 t v u H2 b2 R2 ht ha hb => ⟨t, _, rfl, .inl (.inl ht), rfl, _, _, rfl, _, _, rfl, rfl, ?_⟩, fun e1 H2 b2 => q2 (term_n e0 e1) H2 ((But.of s1).trans b2)⟩)))))
      have b02 : But p H H2 := (But.of s1).trans b2
      refine l_cons (s_if (t_not (t_val (e_rd1N 0 cT G.cl hr (by omega) rfl R2 (a_cons (e_str (a_nil ⟨p, T, r1, _, rfl, R2, fun r2 e2 H3 b3 R3 => ⟨_, rfl, ?_⟩, fun e2 H3 s3 => ⟨_, rfl, ?_⟩⟩)))))))
      · -- a call
        refine ⟨(fun h => by cases h), fun _ => l_nil ?_⟩
        have b03 := b02.trans b3
        have t23 : Tup H2 H3 := R2.tups b3
        refine l_cons (s_if (t_eq (e_var 1 rfl (e_int ⟨rfl, ?_⟩))))
        cases k with
        | zero => exact ⟨fun _ => l_one (s_raise G.inv tx (q2 (term_0 e0 e1 e2) H3 b03)), fun h => absurd (of_decide_eq_false h) (fun z => z rfl)⟩
        | succ k =>
          refine ⟨(fun h => absurd (of_decide_eq_true h) (fun z => by injection z with z; omega)), fun _ => l_nil ?_⟩
          have cR := ih k rfl
          have eq := term_s (k := k) e0 e1 e2
          refine l_cons (s_set 4 (e_lst (a_cons (e_x cR tx hr (by omega) (a_cons (e_var 0 rfl (a_cons (e_subI (e_var 1 rfl (e_int ⟨_, _, rfl, rfl, a_nil ⟨p, T, r2, ?_, R3, fun d r4 e4 v4 H4 b4 R4 g4 => a_nil ⟨by show 1 ≤ sizeLine; decide, fun L hL => ?_⟩, fun e4 H4 b4 => q2 (by rw [eq, e4]; rfl) H4 (b03.trans b4)⟩⟩))))))))) scTakeTerm.nd)
          · show [V.ref p, V.int ((k + 1 : Nat) - 1)] = [V.ref p, V.int k]
            congr 3
            omega
          have npL : p ≠ L := R4.ne hL
          have nLp := npL.symm
          have s5 := same_new (o := .lst [v4]) hL
          have b04 := b03.trans b4
          have t24 : Tup H2 H4 := fun c xs z => (R3.tups b4) c xs (t23 c xs z)
          refine l_cons (s_while (fun σ H' => ∃ (xs : List V) (acc : List PyData) (r' : Cs), σ = [some (.ref p), some (.int ((k + 1 : Nat) : Int)), some v, some u, some (.ref L)] ∧ (∀ c o, c ≠ p → c ≠ L → H4 c = some o → H' c = some o) ∧ RdAt C H' p T r' ∧ H' L = some (.lst xs) ∧ DTs H' xs acc ∧ (acc.length = 1 ∨ acc.length = 2) ∧ pTerm (k + 1) r = restT k a b acc r')
            (fun _ H' => 2 - lstLen (H' L)) ⟨[v4], [d], r4, rfl, fun c o n1 n2 e => s5 _ _ e, R4.same s5, upd_same, (DTs.cons g4 .nil).mono (Same.tups s5), .inl rfl, by rw [eq, e4]; rfl⟩ ?_ po)
          have fin : ∀ (xs : List V) (acc : List PyData) (r' : Cs) (H' : Hp), (∀ c o, c ≠ p → c ≠ L → H4 c = some o → H' c = some o) → RdAt C H' p T r' → H' L = some (.lst xs) → DTs H' xs acc → (pTerm (k + 1) r = (tk ")" r').map fun r6 => (.tuple [.str "call", a, b, .tuple acc], r6)) →
              WL (cxOf (L2.CX P w) P w K mg base ["reader", "deepest", "first", "name", "terms"] "take_term" (defScope sTakeTerm) f cdv B out s H E) ((defBody sTakeTerm).drop 6) { nx := fun _ H' => Q .non H', rt := Q } [some (.ref p), some (.int ((k + 1 : Nat) : Int)), some v, some u, some (.ref L)] H' := fun xs acc r' H' k4 R' hL' g' eq' => by
            have hb4 : But p H H' := But.new b04 hL nLp k4
            refine l_cons (s_expr (e_rd1X 0 cM G.cl tx hr (by omega) rfl R' (a_cons (e_str (a_nil ⟨p, T, r', _, rfl, R', fun r6 e6 H6 b6 R6 => ?_, fun e6 H6 b6 => q2 (by rw [eq', e6]; rfl) H6 (hb4.trans b6)⟩)))))
            have hL6 := b6 _ _ nLp hL'
            refine l_one (s_ret (e_tup (a_cons (e_str (a_cons (e_var 2 rfl (a_cons (e_var 3 rfl (a_cons (e_tupL G.tuple (e_var 4 rfl ⟨L, xs, rfl, .inl (.inl hL6), fun t1 ht1 => a_nil ⟨by show 4 ≤ sizeLine; decide, fun t2 ht2 => ?_⟩⟩)))))))))))
            have s7 := same_new (o := .tup xs) ht1
            have s8 := same_new (o := .tup [V.str "call", v, u, V.ref t1]) ht2
            have t26 : Tup H4 H' := fun c ys z => by
              have nc : c ≠ L := fun e => by rw [e] at z; rw [z] at hL; cases hL
              have np : c ≠ p := fun e => by
                obtain ⟨dx, n, hp, _⟩ := R4
                rw [e, hp] at z; cases z
              exact k4 _ _ np nc z
            have t6 : Tup H2 H6 := fun c xs z => (R'.tups b6) c xs (t26 c xs (t24 c xs z))
            have t68 : Tup H6 (upd (upd H6 t1 (.tup xs)) t2 (.tup [V.str "call", v, u, V.ref t1])) := Same.tups (s7.trans s8)
            have t28 : Tup H2 (upd (upd H6 t1 (.tup xs)) t2 (.tup [V.str "call", v, u, V.ref t1])) := fun c xs z => t68 c xs (t6 c xs z)
            refine q1 _ r6 (by rw [eq', e6]; rfl) _ _ ((hb4.trans b6).trans (But.of (s7.trans s8))) (R6.same (s7.trans s8)) ?_
            exact .tup upd_same (.cons (.str _) (.cons (ha.mono t28) (.cons (hb.mono t28) (.cons (.tup (s8 _ _ upd_same) ((g'.mono (R'.tups b6)).mono t68)) .nil))))
          rintro σ H5 ⟨xs, acc, r5, rfl, k5, R5, hL5, g5, hl, eq5⟩
          obtain ⟨t2, m2⟩ := G.mTerms
          have lxs := g5.length
          refine t_w (w_and (t_lt (e_len G.len (e_var 4 rfl ⟨L, xs, rfl, .inl (.inl (.inl hL5)), e_glob (v := .int 2) m2 ⟨_, rfl⟩ ⟨_, _, rfl, rfl, fun h1 => ?_, fun h1 => ?_⟩⟩))))
          · have h1' : acc.length = 1 := by have := of_decide_eq_true h1; omega
            obtain ⟨t1, rfl⟩ : ∃ t1, acc = [t1] := by
              match acc, h1' with
              | [t1], _ => exact ⟨t1, rfl⟩
            refine w_and1 (t_val (e_rd1N 0 cT G.cl hr (by omega) rfl R5 (a_cons (e_str (a_nil ⟨p, T, r5, _, rfl, R5, fun r6 e6 H6 b6 R6 => ⟨_, rfl, ?_⟩, fun e6 H6 s6 => ⟨_, rfl, ?_⟩⟩)))))
            · rw [if_pos rfl]
              have hL6 := b6 _ _ nLp hL5
              have eq6 : pTerm (k + 1) r = (pTerm k r6).bind fun t2 => (tk ")" t2.2).map fun r6 => (.tuple [.str "call", a, b, .tuple [t1, t2.1]], r6) := by
                rw [eq5]; unfold restT; simp only [e6]
              refine l_one (s_app (e_var 4 rfl ⟨⟨L, xs, rfl, .inl (.inl hL6)⟩, e_x cR tx hr (by omega) (a_cons (e_var 0 rfl (a_cons (e_subI (e_var 1 rfl (e_int ⟨_, _, rfl, rfl, a_nil ⟨p, T, r6, ?_, R6, fun d7 r7 e7 v7 H7 b7 R7 g7 => ?_, fun e7 H7 b7 => q2 (by rw [eq6, e7]; rfl) H7 (But.new b04 hL nLp fun c o n1 n2 eb => b7 _ _ n1 (b6 _ _ n1 (k5 _ _ n1 n2 eb)))⟩⟩))))))⟩))
              · show [V.ref p, V.int ((k + 1 : Nat) - 1)] = [V.ref p, V.int k]
                congr 3
                omega
              have hL7 := b7 _ _ nLp hL6
              refine ⟨L, xs, rfl, hL7, Nat.lt_of_lt_of_le (show xs.length < 100 by rw [lxs]; show 1 < 100; decide) (by decide), ?_⟩
              have t7 : Tup H7 (upd H7 L (.lst (xs ++ [v7]))) := Tup.set hL7
              refine ⟨⟨xs ++ [v7], [t1, d7], r7, rfl, fun c o n1 n2 eb => by rw [upd_ne n2]; exact b7 _ _ n1 (b6 _ _ n1 (k5 _ _ n1 n2 eb)), R7.eq (upd_ne npL), upd_same, ((((g5.mono (R5.tups b6)).mono (R6.tups b7)).snoc g7).mono t7), .inr rfl, by rw [eq6, e7]; rfl⟩, ?_⟩
              show 2 - lstLen (upd H7 L (.lst (xs ++ [v7])) L) < 2 - lstLen (H5 L)
              rw [upd_same, hL5]
              show 2 - (xs ++ [v7]).length < 2 - xs.length
              rw [List.length_append, lxs]
              show 2 - (1 + 1) < 2 - 1
              decide
            · rw [if_neg Bool.false_ne_true]
              exact fin xs [t1] r5 H6 (fun c o n1 n2 eb => s6 _ _ (k5 _ _ n1 n2 eb)) (R5.same s6) (s6 _ _ hL5) (g5.mono (Same.tups s6)) (by rw [eq5]; unfold restT; simp only [e6])
          · rw [if_neg Bool.false_ne_true]
            have h2 : acc.length = 2 := by have := of_decide_eq_false h1; omega
            refine fin xs acc r5 H5 k5 R5 hL5 g5 ?_
            rw [eq5]
            match acc, h2 with
            | [x, y], _ => rfl
      · -- a column
        refine ⟨fun _ => ?_, fun h => by cases h⟩
        refine l_one (s_ret (e_tup (a_cons (e_var 2 rfl (a_cons (e_var 3 rfl (a_nil ⟨by show 2 ≤ sizeLine; decide, fun t' ht' => ?_⟩)))))))
        have s4 := s3.trans (same_new (o := .tup [v, u]) ht')
        exact q1 _ r1 (term_c e0 e1 e2) _ _ (b02.trans (But.of s4)) (R2.same s4) (.tup upd_same (.cons (ha.mono (Same.tups s4)) (.cons (hb.mono (Same.tups s4)) .nil)))
theorem ok_tterm {f : Addr} {fd : FuncData} (F : Fun K "take_term" "take_term" sTakeTerm f fd) (bd : Binds K fd ["reader", "deepest"] []) (hm : mg "take_term" = some (.ref f)) (G : Br K mg C CI) (cS : MetN P w K mg base CX0 1 C "sees" (spSees C)) (cT : MetN P w K mg base CX0 2 C "takes" (spTakes C)) (cM : MetN P w K mg base (L2.CX P w) 3 C "must_take" (spMust C CI)) (cV : MetN P w K mg base (L2.CX P w) 4 C "take_value" (spP C CI pVal)) (cD : CalX P w K mg base 4 "take_dotted" (spDt C CI)) :
    ∀ k : Nat, FnOk P w K mg base (L2.CX P w) (k + 5) f fd ["reader", "deepest"] (spTm C CI k)
  | 0 => ok_tterm_step 0 (fun j e => absurd e (by omega)) F G cS cT cM cV cD
  | k + 1 => ok_tterm_step (k + 1) (fun j e => by
      have : j = k := by omega
      subst this
      exact ⟨f, fd, _, ok_tterm F bd hm G cS cT cM cV cD j, hm, F.kp, bd⟩) F G cS cT cM cV cD
end
end K13R

namespace K13R
open PySem PySem.Spec PyProof.Rows L2 My
section
variable {P : Program} {w : World} {K : PySem.W.Frag} {mg : Str → Option Value} {base : Heap} {C CI : Addr}
theorem at_d {d : PyData} {a b : PyData} (h : d = .tuple [a, b]) : at' d 1 = b := by rw [h]; rfl
theorem scTakeTold : FnScope ["reader", "start", "label", "term"] ["reader"] (defScope sTakeTold) := ⟨rfl, rfl, rfl, by decide +kernel, rfl, by decide +kernel, by decide +kernel⟩
theorem ok_ttold {f : Addr} {fd : FuncData} (F : Fun K "take_told" "take_told" sTakeTold f fd) (G : Br K mg C CI) (cS : MetN P w K mg base CX0 1 C "sees" (spSees C)) (cN : MetN P w K mg base (L2.CX P w) 3 C "take_name" (spP C CI pName)) (cT : MetN P w K mg base CX0 2 C "takes" (spTakes C)) (cM : MetN P w K mg base (L2.CX P w) 3 C "must_take" (spMust C CI))
    (cR : CalX P w K mg base 8 "take_term" (spTm C CI 3)) (cC : CalN P w K mg base 4 "is_column" (spB colD)) : FnOk P w K mg base (L2.CX P w) 9 f fd ["reader"] (spP C CI pTold) := by
  refine Fun.okXW F scTakeTold (fun vs H Q E h => by obtain ⟨p, T, r, rfl, _⟩ := h; rfl) (fun cdv B out s H vs Q E hr tx po h => ?_)
  obtain ⟨p, T, r, rfl, R, q1, q2⟩ := h
  obtain ⟨dx, n, hp, hn, er, hT⟩ := id R
  refine l_cons (s_set 1 (e_fld (e_var 0 rfl ⟨p, C, dx, _, _, rfl, hp, G.cl, G.nA, rf_at _ _, ?_⟩)) scTakeTold.nd)
  -- behind the star
  have rest : ∀ (lb : Option V) (H1 : Hp), But p H H1 → RdAt C H1 p T r → (pTold r = pTold1 r) →
      WL (cxOf (L2.CX P w) P w K mg base ["reader", "start", "label", "term"] "take_told" (defScope sTakeTold) f cdv B out s H E) ((defBody sTakeTold).drop 2) { nx := fun _ H' => Q .non H', rt := Q } [some (.ref p), some (.int n), lb, none] H1 := fun lb H1 b1 R1 eT => by
    obtain ⟨t3, m3⟩ := G.deepest
    refine l_cons (s_set 3 (e_x cR tx hr (by decide) (a_cons (e_var 0 rfl (a_cons (e_glob (v := .int 3) m3 ⟨_, rfl⟩ (a_nil ⟨p, T, r, rfl, R1, fun t r2 e2 v2 H2 b2 R2 g2 => ?_, fun e2 H2 b2 => q2 (by rw [eT]; unfold pTold1; rw [e2]; rfl) H2 (b1.trans b2)⟩)))))) scTakeTold.nd)
    have ft := pTerm_form e2
    have kt := (fzTm 3 ft).okS (by decide) (by decide)
    have b02 := b1.trans b2
    refine l_cons (s_if (t_not (t_val (e_c cC hr (by decide) (a_cons (e_var 3 rfl (a_nil ⟨fun _ => False, v2, t, rfl, g2.dg, kt, fun H3 s3 => ⟨_, rfl, ?_⟩⟩)))))))
    have b03 := b02.trans (But.of s3)
    have R3 := R2.same s3
    have g3 := g2.mono (Same.tups s3)
    cases hc : colD t with
    | false =>
      refine ⟨fun _ => ?_, fun h => by cases h⟩
      have eT2 : pTold r = (tk " as " r2).bind fun r2 => (pName r2).map fun y => (.tuple [.str "term", t, y.1], y.2) := by
        rw [eT]; unfold pTold1; rw [e2]; simp only [Option.bind_some, hc, Bool.false_eq_true, if_false]
      refine l_cons (s_expr (e_rd1X 0 cM G.cl tx hr (by decide) rfl R3 (a_cons (e_str (a_nil ⟨p, T, r2, _, rfl, R3, fun r4 e4 H4 b4 R4 => ?_, fun e4 H4 b4 => q2 (by rw [eT2, e4]; rfl) H4 (b03.trans b4)⟩)))))
      refine l_one (s_ret (e_tup (a_cons (e_str (a_cons (e_var 3 rfl (a_cons (e_rd0X 0 cN G.cl tx hr (by decide) rfl R4 ⟨p, T, r4, rfl, R4, fun d5 r5 e5 v5 H5 b5 R5 g5 => a_nil ⟨by show 3 ≤ sizeLine; decide, fun t' ht' => ?_⟩, fun e5 H5 b5 => q2 (by rw [eT2, e4]; simp only [Option.bind_some, e5, Option.map_none]) H5 ((b03.trans b4).trans b5)⟩))))))))
      have s6 := same_new (o := .tup [V.str "term", v2, v5]) ht'
      refine q1 (.tuple [.str "term", t, d5]) r5 (by rw [eT2, e4]; simp only [Option.bind_some, e5, Option.map_some]) _ _ (((b03.trans b4).trans b5).trans (But.of s6)) (R5.same s6) ?_
      exact .tup upd_same (.cons (.str _) (.cons (((g3.mono (R3.tups b4)).mono (R4.tups b5)).mono (Same.tups s6)) (.cons (g5.mono (Same.tups s6)) .nil)))
    | true =>
      refine ⟨(fun h => by cases h), fun _ => l_nil ?_⟩
      have eT2 : pTold r = (match tk " as " r2 with | some r2 => (pName r2).map fun y => (.tuple [.str "column", t, y.1], y.2) | none => some (.tuple [.str "column", t, at' t 1], r2)) := by
        rw [eT]; unfold pTold1; rw [e2]; simp only [Option.bind_some, hc, if_true]; try rfl
      refine l_cons (s_if (t_val (e_rd1N 0 cT G.cl hr (by decide) rfl R3 (a_cons (e_str (a_nil ⟨p, T, r2, _, rfl, R3, fun r4 e4 H4 b4 R4 => ⟨_, rfl, ?_⟩, fun e4 H4 s4 => ⟨_, rfl, ?_⟩⟩))))))
      · refine ⟨fun _ => ?_, fun h => by cases h⟩
        refine l_one (s_ret (e_tup (a_cons (e_str (a_cons (e_var 3 rfl (a_cons (e_rd0X 0 cN G.cl tx hr (by decide) rfl R4 ⟨p, T, r4, rfl, R4, fun d5 r5 e5 v5 H5 b5 R5 g5 => a_nil ⟨by show 3 ≤ sizeLine; decide, fun t' ht' => ?_⟩, fun e5 H5 b5 => q2 (by rw [eT2]; simp only [e4, e5, Option.map_none]) H5 ((b03.trans b4).trans b5)⟩))))))))
        have s6 := same_new (o := .tup [V.str "column", v2, v5]) ht'
        refine q1 (.tuple [.str "column", t, d5]) r5 (by rw [eT2]; simp only [e4, e5, Option.map_some]) _ _ (((b03.trans b4).trans b5).trans (But.of s6)) (R5.same s6) ?_
        exact .tup upd_same (.cons (.str _) (.cons (((g3.mono (R3.tups b4)).mono (R4.tups b5)).mono (Same.tups s6)) (.cons (g5.mono (Same.tups s6)) .nil)))
      · refine ⟨(fun h => by cases h), fun _ => l_nil ?_⟩
        obtain ⟨a, b, rfl, ha, hb⟩ := colE hc
        obtain ⟨ta, x, y, rfl, hta, gx, gy⟩ := (g3.mono (Same.tups s4)).tup2
        refine l_one (s_ret (e_tup (a_cons (e_str (a_cons (e_var 3 rfl (a_cons (e_ixT (e_var 3 rfl (e_int ⟨ta, _, 1, _, rfl, rfl, .inl (.inl hta), rfl, a_nil ⟨by show 3 ≤ sizeLine; decide, fun t' ht' => ?_⟩⟩))))))))))
        have s6 := same_new (o := .tup [V.str "column", V.ref ta, y]) ht'
        refine q1 _ r2 (by rw [eT2]; simp only [e4]; rfl) _ _ ((b03.trans (But.of s4)).trans (But.of s6)) ((R3.same s4).same s6) ?_
        exact .tup upd_same (.cons (.str _) (.cons (.tup (s6 _ _ hta) (.cons (gx.mono (Same.tups s6)) (.cons (gy.mono (Same.tups s6)) .nil))) (.cons (gy.mono (Same.tups s6)) .nil)))
  refine l_cons (s_if (t_not (t_val (e_rd1N 0 cS G.cl hr (by decide) rfl R (a_cons (e_str (a_nil ⟨p, T, r, _, rfl, R, fun H1 s1 => ⟨_, rfl, ?_⟩⟩)))))))
  cases e0 : (tk "'" r).isSome with
  | true =>
    refine ⟨(fun h => by cases h), fun _ => l_nil ?_⟩
    exact rest none H1 (But.of s1) (R.same s1) (by unfold pTold; rw [if_pos e0])
  | false =>
    refine ⟨fun _ => ?_, fun h => by cases h⟩
    have R1 := R.same s1
    have eT : pTold r = (pName r).bind fun x => match tk ".*" x.2 with | some r2 => some (.tuple [.str "star", x.1], r2) | none => pTold1 r := by
      unfold pTold; rw [if_neg (by rw [e0]; exact Bool.false_ne_true)]; try rfl
    refine l_cons (s_set 2 (e_rd0X 0 cN G.cl tx hr (by decide) rfl R1 ⟨p, T, r, rfl, R1, fun d2 r2 e2 v2 H2 b2 R2 g2 => ?_, fun e2 H2 b2 => q2 (by rw [eT, e2]; rfl) H2 ((But.of s1).trans b2)⟩) scTakeTold.nd)
    have b02 : But p H H2 := (But.of s1).trans b2
    refine l_cons (s_if (t_val (e_rd1N 0 cT G.cl hr (by decide) rfl R2 (a_cons (e_str (a_nil ⟨p, T, r2, _, rfl, R2, fun r3 e3 H3 b3 R3 => ⟨_, rfl, ?_⟩, fun e3 H3 s3 => ⟨_, rfl, ?_⟩⟩))))))
    · refine ⟨fun _ => ?_, fun h => by cases h⟩
      refine l_one (s_ret (e_tup (a_cons (e_str (a_cons (e_var 2 rfl (a_nil ⟨by show 2 ≤ sizeLine; decide, fun t' ht' => ?_⟩)))))))
      have s6 := same_new (o := .tup [V.str "star", v2]) ht'
      refine q1 (.tuple [.str "star", d2]) r3 (by rw [eT, e2]; simp only [Option.bind_some, e3]) _ _ ((b02.trans b3).trans (But.of s6)) (R3.same s6) ?_
      exact .tup upd_same (.cons (.str _) (.cons ((g2.mono (R2.tups b3)).mono (Same.tups s6)) .nil))
    · refine ⟨(fun h => by cases h), fun _ => l_nil ?_⟩
      obtain ⟨dx3, n3, hp3, _⟩ := R2.same s3
      refine l_one (s_fld (e_var 1 rfl (e_var 0 rfl ⟨p, C, dx3, _, rfl, hp3, G.cl, G.nA, rf_len _ _, ?_⟩)))
      exact rest (some v2) _ ((b02.trans (But.of s3)).trans But.upd) ⟨dx3, n, by rw [upd_same, rf_put], hn, er, hT⟩ (by rw [eT, e2]; simp only [Option.bind_some, e3])
theorem scTakeSrc : FnScope ["reader", "schema", "name"] ["reader"] (defScope sTakeSrc) := ⟨rfl, rfl, rfl, by decide +kernel, rfl, by decide +kernel, by decide +kernel⟩
theorem ok_tsrc {f : Addr} {fd : FuncData} (F : Fun K "take_source" "take_source" sTakeSrc f fd) (G : Br K mg C CI) (cS : MetN P w K mg base CX0 1 C "sees" (spSees C)) (cN : MetN P w K mg base (L2.CX P w) 3 C "take_name" (spP C CI pName)) (cT : MetN P w K mg base CX0 2 C "takes" (spTakes C))
    (cD : CalX P w K mg base 4 "take_dotted" (spDt C CI)) : FnOk P w K mg base (L2.CX P w) 5 f fd ["reader"] (spP C CI pSource) := by
  refine Fun.okXW F scTakeSrc (fun vs H Q E h => by obtain ⟨p, T, r, rfl, _⟩ := h; rfl) (fun cdv B out s H vs Q E hr tx po h => ?_)
  obtain ⟨p, T, r, rfl, R, q1, q2⟩ := h
  refine l_cons (s_asg (pg_tup rfl (pgs_cons (pg_name (i := 1) scTakeSrc.nd rfl (.inl rfl)) (pgs_cons (pg_name (i := 2) scTakeSrc.nd rfl (.inl rfl)) pgs_nil))) (e_x cD tx hr (by decide) (a_cons (e_var 0 rfl (a_nil ⟨p, T, r, rfl, R, fun a b r1 e1 t v u H2 b2 R2 ht ha hb => ⟨t, _, rfl, .inl (.inl ht), rfl, _, _, rfl, _, _, rfl, rfl, ?_⟩, fun e1 H2 b2 => q2 (by unfold pSource; rw [e1]; rfl) H2 b2⟩)))))
  have eT : pSource r = if (tk " where " r1).isSome then some (.tuple [a, b, b], r1) else match tk " " r1 with | none => some (.tuple [a, b, b], r1) | some r2 => (pName r2).map fun y => (.tuple [a, b, y.1], y.2) := by
    unfold pSource; rw [e1]; rfl
  have alone : ∀ H3, Same H2 H3 → pSource r = some (.tuple [a, b, b], r1) → WL (cxOf (L2.CX P w) P w K mg base ["reader", "schema", "name"] "take_source" (defScope sTakeSrc) f cdv B out s H E) (match (defBody sTakeSrc).drop 1 with | .If _ b _ _ :: _ => b | _ => []) { nx := fun σ' H' => WL (cxOf (L2.CX P w) P w K mg base ["reader", "schema", "name"] "take_source" (defScope sTakeSrc) f cdv B out s H E) ((defBody sTakeSrc).drop 2) { nx := fun _ H' => Q .non H', rt := Q } σ' H', rt := Q } [some (.ref p), some v, some u] H3 := fun H3 s3 e3 => by
    refine l_one (s_ret (e_tup (a_cons (e_var 1 rfl (a_cons (e_var 2 rfl (a_cons (e_var 2 rfl (a_nil ⟨by show 3 ≤ sizeLine; decide, fun t' ht' => ?_⟩)))))))))
    have s6 := s3.trans (same_new (o := .tup [v, u, u]) ht')
    exact q1 _ r1 e3 _ _ (b2.trans (But.of s6)) (R2.same s6) (.tup upd_same (.cons (ha.mono (Same.tups s6)) (.cons (hb.mono (Same.tups s6)) (.cons (hb.mono (Same.tups s6)) .nil))))
  refine l_cons (s_if (t_w (w_or (t_val (e_rd1N 0 cS G.cl hr (by decide) rfl R2 (a_cons (e_str (a_nil ⟨p, T, r1, _, rfl, R2, fun H3 s3 => ⟨_, rfl, ?_⟩⟩))))))))
  cases e0 : (tk " where " r1).isSome with
  | true => exact ⟨fun _ => ⟨fun _ => alone H3 s3 (by rw [eT, if_pos e0]), fun h => by cases h⟩, fun h => by cases h⟩
  | false =>
    have eT2 : pSource r = match tk " " r1 with | none => some (.tuple [a, b, b], r1) | some r2 => (pName r2).map fun y => (.tuple [a, b, y.1], y.2) := by rw [eT, if_neg (by rw [e0]; exact Bool.false_ne_true)]
    refine ⟨(fun h => by cases h), fun _ => w_or1 (t_not (t_val (e_rd1N 0 cT G.cl hr (by decide) rfl (R2.same s3) (a_cons (e_str (a_nil ⟨p, T, r1, _, rfl, R2.same s3, fun r4 e4 H4 b4 R4 => ⟨_, rfl, ?_⟩, fun e4 H4 s4 => ⟨_, rfl, ?_⟩⟩))))))⟩
    · refine ⟨(fun h => by cases h), fun _ => l_nil ?_⟩
      have b04 := (b2.trans (But.of s3)).trans b4
      refine l_one (s_ret (e_tup (a_cons (e_var 1 rfl (a_cons (e_var 2 rfl (a_cons (e_rd0X 0 cN G.cl tx hr (by decide) rfl R4 ⟨p, T, r4, rfl, R4, fun d5 r5 e5 v5 H5 b5 R5 g5 => a_nil ⟨by show 3 ≤ sizeLine; decide, fun t' ht' => ?_⟩, fun e5 H5 b5 => q2 (by rw [eT2]; simp only [e4, e5, Option.map_none]) H5 (b04.trans b5)⟩))))))))
      have s6 := same_new (o := .tup [v, u, v5]) ht'
      have t26 : Tup H2 (upd H5 t' (.tup [v, u, v5])) := fun c xs z => Same.tups s6 c xs (R4.tups b5 c xs ((R2.same s3).tups b4 c xs (Same.tups s3 c xs z)))
      exact q1 _ r5 (by rw [eT2]; simp only [e4, e5, Option.map_some]) _ _ ((b04.trans b5).trans (But.of s6)) (R5.same s6) (.tup upd_same (.cons (ha.mono t26) (.cons (hb.mono t26) (.cons (g5.mono (Same.tups s6)) .nil))))
    · exact ⟨fun _ => alone H4 (s3.trans s4) (by rw [eT2]; simp only [e4]), fun h => by cases h⟩
theorem scTakeCond : FnScope ["reader", "column", "values"] ["reader"] (defScope sTakeCond) := ⟨rfl, rfl, rfl, by decide +kernel, rfl, by decide +kernel, by decide +kernel⟩
theorem ok_tcond {k : Nat} {f : Addr} {fd : FuncData} (F : Fun K "take_condition" "take_condition" sTakeCond f fd) (G : Br K mg C CI) (cT : MetN P w K mg base CX0 2 C "takes" (spTakes C)) (cM : MetN P w K mg base (L2.CX P w) 3 C "must_take" (spMust C CI))
    (cD : CalX P w K mg base 4 "take_dotted" (spDt C CI)) {gv : Addr} (mv : mg "take_value" = some (.ref gv)) (aV : AtX P w K mg base k gv (spP C CI pVal)) (cL : CalX P w K mg base (k + 1) "take_list" (spList P w K mg base k C CI)) (hk : 3 ≤ k) : FnOk P w K mg base (L2.CX P w) (k + 2) f fd ["reader"] (spP C CI pCond) := by
  refine Fun.okXW F scTakeCond (fun vs H Q E h => by obtain ⟨p, T, r, rfl, _⟩ := h; rfl) (fun cdv B out s H vs Q E hr tx po h => ?_)
  obtain ⟨p, T, r, rfl, R, q1, q2⟩ := h
  refine l_cons (s_set 1 (e_x cD tx hr (by omega) (a_cons (e_var 0 rfl (a_nil ⟨p, T, r, rfl, R, fun a b r1 e1 t v u H2 b2 R2 ht ha hb => ?_, fun e1 H2 b2 => q2 (by unfold pCond; rw [e1]; rfl) H2 b2⟩)))) scTakeCond.nd)
  have eT : pCond r = match tk " = " r1 with | some r2 => (pDot r2).map fun y => (.tuple [.str "equal", .tuple [a, b], .tuple [y.1.1, y.1.2]], y.2) | none => (tk " in (" r1).bind fun r2 => (pList pVal ", " 8 r2).bind fun y => (tk ")" y.2).map fun r4 => (.tuple [.str "in", .tuple [a, b], .tuple y.1], r4) := by
    unfold pCond; rw [e1]; rfl
  have gt : DT H2 (.ref t) (.tuple [a, b]) := .tup ht (.cons ha (.cons hb .nil))
  refine l_cons (s_if (t_val (e_rd1N 0 cT G.cl hr (by omega) rfl R2 (a_cons (e_str (a_nil ⟨p, T, r1, _, rfl, R2, fun r3 e3 H3 b3 R3 => ⟨_, rfl, ?_⟩, fun e3 H3 s3 => ⟨_, rfl, ?_⟩⟩))))))
  · refine ⟨fun _ => ?_, fun h => by cases h⟩
    refine l_one (s_ret (e_tup (a_cons (e_str (a_cons (e_var 1 rfl (a_cons (e_x cD tx hr (by omega) (a_cons (e_var 0 rfl (a_nil ⟨p, T, r3, rfl, R3, fun a4 b4 r4 e4 t4 v4 u4 H4 bb4 R4 ht4 ha4 hb4 => a_nil ⟨by show 3 ≤ sizeLine; decide, fun t' ht' => ?_⟩, fun e4 H4 b4 => q2 (by rw [eT]; simp only [e3, e4, Option.map_none]) H4 ((b2.trans b3).trans b4)⟩)))))))))))
    have s6 := same_new (o := .tup [V.str "equal", V.ref t, V.ref t4]) ht'
    exact q1 _ r4 (by rw [eT]; simp only [e3, e4, Option.map_some]) _ _ (((b2.trans b3).trans bb4).trans (But.of s6)) (R4.same s6) (.tup upd_same (.cons (.str _) (.cons (((gt.mono (R2.tups b3)).mono (R3.tups bb4)).mono (Same.tups s6)) (.cons ((DT.tup ht4 (.cons ha4 (.cons hb4 .nil))).mono (Same.tups s6)) .nil))))
  · refine ⟨(fun h => by cases h), fun _ => l_nil ?_⟩
    have R3 := R2.same s3
    have b03 := b2.trans (But.of s3)
    have gt3 := gt.mono (Same.tups s3)
    obtain ⟨t8, m8⟩ := G.mostV
    refine l_cons (s_expr (e_rd1X 0 cM G.cl tx hr (by omega) rfl R3 (a_cons (e_str (a_nil ⟨p, T, r1, _, rfl, R3, fun r4 e4 H4 b4 R4 => ?_, fun e4 H4 b4 => q2 (by rw [eT]; simp only [e3, e4, Option.bind_none]) H4 (b03.trans b4)⟩)))))
    have b04 := b03.trans b4
    refine l_cons (s_set 2 (e_x cL tx hr (by omega) (a_cons (e_var 0 rfl (a_cons (e_glob (v := .ref gv) mv rfl (a_cons (e_str (a_cons (e_glob (v := .int 8) m8 ⟨_, rfl⟩ (a_nil ⟨p, gv, T, r4, _, 8, pVal, rfl, aV, by decide, by decide, R4, fun ds r5 e5 v5 H5 b5 R5 g5 => ?_, fun e5 H5 b5 => q2 (by rw [eT]; simp only [e3, e4, Option.bind_some, e5, Option.bind_none]) H5 (b04.trans b5)⟩)))))))))) scTakeCond.nd)
    have b05 := b04.trans b5
    refine l_cons (s_expr (e_rd1X 0 cM G.cl tx hr (by omega) rfl R5 (a_cons (e_str (a_nil ⟨p, T, r5, _, rfl, R5, fun r6 e6 H6 b6 R6 => ?_, fun e6 H6 b6 => q2 (by rw [eT]; simp only [e3, e4, Option.bind_some, e5, e6, Option.map_none]) H6 (b05.trans b6)⟩)))))
    refine l_one (s_ret (e_tup (a_cons (e_str (a_cons (e_var 1 rfl (a_cons (e_var 2 rfl (a_nil ⟨by show 3 ≤ sizeLine; decide, fun t' ht' => ?_⟩)))))))))
    have s7 := same_new (o := .tup [V.str "in", V.ref t, v5]) ht'
    exact q1 _ r6 (by rw [eT]; simp only [e3, e4, Option.bind_some, e5, e6, Option.map_some]) _ _ ((b05.trans b6).trans (But.of s7)) (R6.same s7) (.tup upd_same (.cons (.str _) (.cons ((((gt3.mono (R3.tups b4)).mono (R4.tups b5)).mono (R5.tups b6)).mono (Same.tups s7)) (.cons ((g5.mono (R5.tups b6)).mono (Same.tups s7)) .nil))))
end
end K13R

namespace K13R
open PySem PySem.Spec PyProof.Rows L2 My
section
variable {P : Program} {w : World} {K : PySem.W.Frag} {mg : Str → Option Value} {base : Heap} {C CI : Addr}
def spWr : Sp := fun vs H Q _ => ∃ v d, vs = [v] ∧ DT H v d ∧ stD d = true ∧ ∀ H', Same H H' → Q (.str (writeT d)) H'
theorem stc_none {r : Cs} (h : pStmt r = none) : pStmtC r = none := by unfold pStmtC; rw [h]; rfl
theorem scTakeSt : FnScope ["reader", "start", "distinct", "told", "sources", "conditions", "statement"] ["reader"] (defScope sTakeSt) := ⟨rfl, rfl, rfl, by decide +kernel, rfl, by decide +kernel, by decide +kernel⟩
theorem ok_tstmt {f gT gS gC : Addr} {fd : FuncData} (F : Fun K "take_statement" "take_statement" sTakeSt f fd) (G : Br K mg C CI) (cT : MetN P w K mg base CX0 2 C "takes" (spTakes C)) (cM : MetN P w K mg base (L2.CX P w) 3 C "must_take" (spMust C CI))
    (mT : mg "take_told" = some (.ref gT)) (aT : AtX P w K mg base 9 gT (spP C CI pTold)) (mS : mg "take_source" = some (.ref gS)) (aS : AtX P w K mg base 9 gS (spP C CI pSource)) (mC : mg "take_condition" = some (.ref gC)) (aC : AtX P w K mg base 9 gC (spP C CI pCond))
    (cL : CalX P w K mg base 10 "take_list" (spList P w K mg base 9 C CI)) (cI : CalN P w K mg base 11 "is_statement" (spB stD)) (cW : CalN P w K mg base 7 "write" spWr) : FnOk P w K mg base (L2.CX P w) 12 f fd ["reader"] (spP C CI pStmtC) := by
  refine Fun.okXW F scTakeSt (fun vs H Q E h => by obtain ⟨p, T, r, rfl, _⟩ := h; rfl) (fun cdv B out s H vs Q E hr tx po h => ?_)
  obtain ⟨p, T, r, rfl, R, q1, q2⟩ := h
  obtain ⟨dx, n, hp, hn, er, hT⟩ := id R
  have hL : T.length ≤ sizeLine := Nat.le_trans hT (by decide)
  refine l_cons (s_set 1 (e_fld (e_var 0 rfl ⟨p, C, dx, _, _, rfl, hp, G.cl, G.nA, rf_at _ _, ?_⟩)) scTakeSt.nd)
  refine l_cons (s_expr (e_rd1X 0 cM G.cl tx hr (by decide) rfl R (a_cons (e_str (a_nil ⟨p, T, r, _, rfl, R, fun r1 e1 H1 b1 R1 => ?_, fun e1 H1 b1 => q2 (stc_none (by unfold pStmt; rw [e1]; rfl)) H1 b1⟩)))))
  -- the end
  have rest : ∀ (d : PyData) (b : Bool) (ts ss cc : List PyData) (vt vs vc : V) (r' : Cs) (H' : Hp), d = .tuple [.bool b, .tuple ts, .tuple ss, .tuple cc] → But p H H' → RdAt C H' p T r' → DT H' vt (.tuple ts) → DT H' vs (.tuple ss) → DT H' vc (.tuple cc) → pStmt r = some (d, r') →
      WL (cxOf (L2.CX P w) P w K mg base ["reader", "start", "distinct", "told", "sources", "conditions", "statement"] "take_statement" (defScope sTakeSt) f cdv B out s H E) ((defBody sTakeSt).drop 8) { nx := fun _ H' => Q .non H', rt := Q } [some (.ref p), some (.int n), some (.bl b), some vt, some vs, some vc, none] H' := fun d b ts ss cc vt vs vc r' H' ed bH R' gt gs gc eq => by
    refine l_cons (s_set 6 (e_tup (a_cons (e_var 2 rfl (a_cons (e_var 3 rfl (a_cons (e_var 4 rfl (a_cons (e_var 5 rfl (a_nil ⟨by show 4 ≤ sizeLine; decide, fun t ht => ?_⟩))))))))) ) scTakeSt.nd)
    have s1 := same_new (o := .tup [V.bl b, vt, vs, vc]) ht
    have gd : DT (upd H' t (.tup [V.bl b, vt, vs, vc])) (.ref t) d := by
      rw [ed]
      exact .tup upd_same (.cons (.bl b) (.cons (gt.mono (Same.tups s1)) (.cons (gs.mono (Same.tups s1)) (.cons (gc.mono (Same.tups s1)) .nil))))
    have R1 := R'.same s1
    have b1 := bH.trans (But.of (p := p) s1)
    generalize upd H' t (.tup [V.bl b, vt, vs, vc]) = H2 at gd R1 b1
    have kd : okS d = true := fzStmt eq
    refine l_cons (s_if (t_not (t_val (e_c cI hr (by decide) (a_cons (e_var 6 rfl (a_nil ⟨fun _ => False, _, d, rfl, gd.dg, kd, fun H3 s3 => ⟨_, rfl, ?_⟩⟩)))))))
    have b3 := b1.trans (But.of s3)
    have R3 := R1.same s3
    have gd3 := gd.mono (Same.tups s3)
    cases hs : stD d with
    | false => exact ⟨fun _ => l_one (s_raise G.inv tx (q2 (by unfold pStmtC; rw [eq]; simp only [Option.bind_some, hs, Bool.false_eq_true, false_and, if_false]) _ b3)), fun h => by cases h⟩
    | true =>
      refine ⟨(fun h => by cases h), fun _ => l_nil ?_⟩
      refine l_cons (s_if (t_ne (e_c cW hr (by decide) (a_cons (e_var 6 rfl (a_nil ⟨_, d, rfl, gd3, hs, fun H4 s4 => ?_⟩))))))
      have b4 := b3.trans (But.of s4)
      have R4 := R3.same s4
      have gd4 := gd3.mono (Same.tups s4)
      obtain ⟨dx4, m, hp4, hm, er4, _⟩ := id R4
      refine e_slS (e_fld (e_var 0 rfl ⟨p, C, dx4, _, _, rfl, hp4, G.cl, G.nT, rf_text _ _, e_var 1 rfl ⟨_, rfl, e_fld (e_var 0 rfl ⟨p, C, dx4, _, _, rfl, hp4, G.cl, G.nA, rf_at _ _, T, _, rfl, rfl, hL, rfl, ?_⟩)⟩⟩))
      have ec : cs (cutS T (some (n : Int)) (some (m : Int))) = r.take (r.length - r'.length) := by
        unfold cutS
        rw [HT.sIx_nat, HT.sIx_nat, Nat.min_eq_left hn, Nat.min_eq_left hm]
        have e5 : (cs T).length = T.length := rfl
        have l1 : r.length = T.length - n := by rw [← er, List.length_drop]; rfl
        have l2 : r'.length = T.length - m := by rw [← er4, List.length_drop]; rfl
        have e6 : r.length - r'.length = m - n := by omega
        rw [e6, ← er]
      by_cases ew : cs (writeT d) = r.take (r.length - r'.length)
      · have ex : writeT d = cutS T (some (n : Int)) (some (m : Int)) := by rw [← mkS_cs (writeT d), ew, ← ec, mkS_cs]
        rw [ex, decide_eq_true rfl]
        refine ⟨(fun h => by cases h), fun _ => l_nil ?_⟩
        exact l_one (s_ret (e_var 6 rfl (q1 d r' (by unfold pStmtC; rw [eq]; simp only [Option.bind_some]; rw [if_pos ⟨hs, ew⟩]) _ _ b4 R4 gd4)))
      · have ex : decide (V.str (writeT d) = V.str (cutS T (some (n : Int)) (some (m : Int)))) = false := decide_eq_false fun h => by
          injection h with h
          exact ew (by rw [h]; exact ec)
        rw [ex]
        exact ⟨fun _ => l_one (s_raise G.inv tx (q2 (by unfold pStmtC; rw [eq]; simp only [Option.bind_some]; rw [if_neg fun h => ew h.2]) _ b4)), fun h => by cases h⟩
  -- behind the word distinct
  have main : ∀ (b : Bool) (r2 : Cs) (H2 : Hp), But p H H2 → RdAt C H2 p T r2 → pSel r1 = (b, r2) →
      WL (cxOf (L2.CX P w) P w K mg base ["reader", "start", "distinct", "told", "sources", "conditions", "statement"] "take_statement" (defScope sTakeSt) f cdv B out s H E) ((defBody sTakeSt).drop 3) { nx := fun _ H' => Q .non H', rt := Q } [some (.ref p), some (.int n), some (.bl b), none, none, none, none] H2 := fun b r2 H2 b2 R2 eS => by
    obtain ⟨t8, m8⟩ := G.mTold
    obtain ⟨t4, m4⟩ := G.mSources
    obtain ⟨t9, m9⟩ := G.mCond
    have eP : pStmt r = (pList pTold ", " 8 r2).bind fun t => pTail b t.1 t.2 := by unfold pStmt; rw [e1]; simp only [Option.bind_some, eS]
    refine l_cons (s_set 3 (e_x cL tx hr (by decide) (a_cons (e_var 0 rfl (a_cons (e_glob (v := .ref gT) mT rfl (a_cons (e_str (a_cons (e_glob (v := .int 8) m8 ⟨_, rfl⟩ (a_nil ⟨p, gT, T, r2, _, 8, pTold, rfl, aT, by decide, by decide, R2, fun ts r3 e3 v3 H3 b3 R3 g3 => ?_, fun e3 H3 b3 => q2 (stc_none (by rw [eP, e3]; rfl)) H3 (b2.trans b3)⟩)))))))))) scTakeSt.nd)
    have eP3 : pStmt r = pTail b ts r3 := by rw [eP, e3]; rfl
    have bb3 := b2.trans b3
    refine l_cons (s_expr (e_rd1X 0 cM G.cl tx hr (by decide) rfl R3 (a_cons (e_str (a_nil ⟨p, T, r3, _, rfl, R3, fun r4 e4 H4 b4 R4 => ?_, fun e4 H4 b4 => q2 (stc_none (by rw [eP3]; unfold pTail; rw [e4]; rfl)) H4 (bb3.trans b4)⟩)))))
    have bb4 := bb3.trans b4
    refine l_cons (s_set 4 (e_x cL tx hr (by decide) (a_cons (e_var 0 rfl (a_cons (e_glob (v := .ref gS) mS rfl (a_cons (e_str (a_cons (e_glob (v := .int 4) m4 ⟨_, rfl⟩ (a_nil ⟨p, gS, T, r4, _, 4, pSource, rfl, aS, by decide, by decide, R4, fun ss r5 e5 v5 H5 b5 R5 g5 => ?_, fun e5 H5 b5 => q2 (stc_none (by rw [eP3]; unfold pTail; rw [e4]; simp only [Option.bind_some, e5, Option.bind_none])) H5 (bb4.trans b5)⟩)))))))))) scTakeSt.nd)
    have bb5 := bb4.trans b5
    have g35 := (g3.mono (R3.tups b4)).mono (R4.tups b5)
    have eP5 : pStmt r = match tk " where " r5 with | some r6 => (pList pCond " and " 8 r6).map fun c => (.tuple [.bool b, .tuple ts, .tuple ss, .tuple c.1], c.2) | none => some (.tuple [.bool b, .tuple ts, .tuple ss, .tuple []], r5) := by
      rw [eP3]; unfold pTail; rw [e4]; simp only [Option.bind_some, e5]; try rfl
    refine l_cons (s_set 5 (e_tup (a_nil ⟨Nat.zero_le _, fun t0 ht0 => ?_⟩)) scTakeSt.nd)
    have s6 := same_new (o := .tup []) ht0
    have R6 := R5.same s6
    have bb6 := bb5.trans (But.of (p := p) s6)
    have g36 := g35.mono (Same.tups s6)
    have g56 := g5.mono (Same.tups s6)
    have g66 : DT (upd H5 t0 (.tup [])) (.ref t0) (.tuple []) := .tup upd_same .nil
    generalize upd H5 t0 (.tup []) = H6 at R6 bb6 g36 g56 g66
    refine l_cons (s_if (t_val (e_rd1N 0 cT G.cl hr (by decide) rfl R6 (a_cons (e_str (a_nil ⟨p, T, r5, _, rfl, R6, fun r7 e7 H7 b7 R7 => ⟨_, rfl, ?_⟩, fun e7 H7 s7 => ⟨_, rfl, ?_⟩⟩))))))
    · refine ⟨fun _ => ?_, fun h => by cases h⟩
      refine l_one (s_set 5 (e_x cL tx hr (by decide) (a_cons (e_var 0 rfl (a_cons (e_glob (v := .ref gC) mC rfl (a_cons (e_str (a_cons (e_glob (v := .int 8) m9 ⟨_, rfl⟩ (a_nil ⟨p, gC, T, r7, _, 8, pCond, rfl, aC, by decide, by decide, R7, fun cc r8 e8 v8 H8 b8 R8 g8 => ?_, fun e8 H8 b8 => q2 (stc_none (by rw [eP5]; simp only [e7, e8, Option.map_none])) H8 ((bb6.trans b7).trans b8)⟩)))))))))) scTakeSt.nd)
      exact rest _ b ts ss cc v3 v5 v8 r8 H8 rfl ((bb6.trans b7).trans b8) R8 ((g36.mono (R6.tups b7)).mono (R7.tups b8)) ((g56.mono (R6.tups b7)).mono (R7.tups b8)) g8 (by rw [eP5]; simp only [e7, e8, Option.map_some])
    · refine ⟨(fun h => by cases h), fun _ => l_nil ?_⟩
      exact rest _ b ts ss [] v3 v5 (.ref t0) r5 H7 rfl (bb6.trans (But.of s7)) (R6.same s7) (g36.mono (Same.tups s7)) (g56.mono (Same.tups s7)) (g66.mono (Same.tups s7)) (by rw [eP5]; simp only [e7])
  refine l_cons (s_set 2 (e_rd1N 0 cT G.cl hr (by decide) rfl R1 (a_cons (e_str (a_nil ⟨p, T, r1, _, rfl, R1, fun r2 e2 H2 b2 R2 => ?_, fun e2 H2 s2 => ?_⟩)))) scTakeSt.nd)
  · exact main true r2 H2 (b1.trans b2) R2 (by unfold pSel; rw [e2])
  · exact main false r1 H2 (b1.trans (But.of s2)) (R1.same s2) (by unfold pSel; rw [e2])
/-- read -/
def spRead (CI : Addr) : Sp := fun vs H Q E => ∃ (v : V) (d : PyData) (S : Addr → Prop), vs = [v] ∧ DG S H v d ∧ (∀ z, d = .str z → z.length ≤ 1000000) ∧ (∀ z e, d = .str z → pRead z = some e → ∀ u H', Same H H' → DT H' u e → Q u H') ∧ ((∀ z, d = .str z → pRead z = none) → ∀ H', Same H H' → E (.ref CI) none H')
theorem scRead : FnScope ["text", "reader", "statement"] ["text"] (defScope sRead) := ⟨rfl, rfl, rfl, by decide +kernel, rfl, by decide +kernel, by decide +kernel⟩
theorem But.made {p : Addr} {H H1 H2 : Hp} (s : Same H H1) (b : But p H1 H2) (h : H p = none) : Same H H2 := fun c o e => b c o (ne_of_none e h) (s _ _ e)
theorem ok_read {f : Addr} {fd : FuncData} (F : Fun K "read" "read" sRead f fd) (G : Br K mg C CI) (cK : MakN P w K mg base (L2.CX P w) 1 "Reader" C (spMk C CI)) (cS : CalX P w K mg base 12 "take_statement" (spP C CI pStmtC)) (cE : MetN P w K mg base (L2.CX P w) 1 C "must_end" (spEnd C CI)) : FnOk P w K mg base (L2.CX P w) 13 f fd ["text"] (spRead CI) := by
  refine Fun.okXW F scRead (fun vs H Q E h => by obtain ⟨v, d, S, rfl, _⟩ := h; rfl) (fun cdv B out s H vs Q E hr tx po h => ?_)
  obtain ⟨v, d, S, rfl, hd, hz, q1, q2⟩ := h
  refine l_cons (s_set 1 (e_makeX cK tx hr (by decide) (a_cons (e_var 0 rfl (a_nil fun p dx np ndx nxp => ?_)))) scRead.nd)
  have s0 : Same H (upd (upd H dx (.own p)) p (.ins C dx [])) := fun b o e => by
    rw [upd_ne (ne_of_none e np), upd_ne (ne_of_none e ndx)]; exact e
  refine ⟨p, dx, v, d, S, rfl, upd_same, hd.same s0, fun T eT => ⟨hz T eT, fun H1 b1 R1 => ⟨rfl, ?_⟩⟩, fun e H1 b1 => q2 (fun z ez => by rw [ez] at e; cases e) _ (But.made s0 b1 np)⟩
  have s1 := But.made s0 b1 np
  have nz : ∀ {z : Str}, d = .str z → z = T := fun ez => by rw [eT] at ez; cases ez; rfl
  refine l_cons (s_set 2 (e_x cS tx hr (by decide) (a_cons (e_var 1 rfl (a_nil ⟨p, T, cs T, rfl, R1, fun e2 r2 eq2 v2 H2 b2 R2 g2 => ?_, fun eq2 H2 b2 => q2 (fun z ez => by rw [nz ez]; unfold pRead; rw [eq2]; rfl) _ (But.made s1 b2 np)⟩)))) scRead.nd)
  have s2 := But.made s1 b2 np
  refine l_cons (s_expr (e_rd0X 1 cE G.cl tx hr (by decide) rfl R2 ⟨p, T, r2, rfl, R2, fun e3 H3 s3 => ?_, fun e3 H3 s3 => q2 (fun z ez => by rw [nz ez]; unfold pRead; rw [eq2]; simp only [Option.bind_some]; rw [if_neg e3]) _ (s2.trans s3)⟩))
  refine l_one (s_ret (e_var 2 rfl (q1 T e2 eT (by unfold pRead; rw [eq2]; simp only [Option.bind_some]; rw [if_pos e3]) v2 H3 (s2.trans s3) (g2.mono (Same.tups s3)))))
end
end K13R

namespace K13W
open PySem PySem.Spec PyProof.Rows L2 My
def top (i : Nat) : Stmt := PySem.Challenge.pw_boundonce_k13_texts_typed.main.body.getD i (.Pass ⟨0, 0, 0, 0⟩)
structure Bl (mg : Str → Option Value) : Prop where
  list : mg "list" = none
  len : mg "len" = none
  int : mg "int" = none
/-! ### the forms -/
def nm (z : Str) : Prop := z.length ≤ 9 ∧ (z.cps.toList.all fun c => decide (c < 128)) = true
def okN (d : PyData) : Prop := ∃ z, d = .str z ∧ nm z
def okO (d : PyData) : Prop := d = .none ∨ okN d
def okC (d : PyData) : Prop := ∃ a b, d = .tuple [a, b] ∧ okO a ∧ okN b
def okK (F : PyData → Prop) (d : PyData) : Prop := ∃ s n ts, d = .tuple [.str "call", s, n, .tuple ts] ∧ okO s ∧ okN n ∧ 1 ≤ ts.length ∧ ts.length ≤ 2 ∧ ∀ t ∈ ts, F t
def okTm : Nat → PyData → Prop
  | 0, d => okN d ∨ okC d
  | k + 1, d => okN d ∨ okC d ∨ okK (okTm k) d
theorem okTm.cases {k : Nat} {d : PyData} (h : okTm k d) : okN d ∨ okC d ∨ ∃ j, k = j + 1 ∧ okK (okTm j) d := by
  cases k with
  | zero => rcases h with h | h; exact .inl h; exact .inr (.inl h)
  | succ j => rcases h with h | h | h; exact .inl h; exact .inr (.inl h); exact .inr (.inr ⟨j, rfl, h⟩)
def lenB : Nat → Nat
  | 0 => 19
  | k + 1 => 2 * lenB k + 40
theorem lenB_le : ∀ k, k ≤ 6 → lenB k ≤ 4000 ∧ 19 ≤ lenB k := by decide
theorem lenB_19 : ∀ k, 19 ≤ lenB k
  | 0 => Nat.le_refl _
  | k + 1 => by have := lenB_19 k; show 19 ≤ 2 * lenB k + 40; omega
theorem cat_len (x y : Str) : (x ++ y).length = x.length + y.length := strLen_append x y
theorem dot_len {a b : PyData} (ha : okO a) (hb : okN b) : (dotT a b).length ≤ 19 := by
  obtain ⟨z, rfl, hz, _⟩ := hb
  rcases ha with rfl | ⟨y, rfl, hy, _⟩
  · show z.length ≤ 19
    omega
  · show (y ++ ("." : Str) ++ z).length ≤ 19
    rw [cat_len, cat_len]
    have : ("." : Str).length = 1 := by decide
    omega
theorem join_len (sep : Str) (ys : List Str) : (Txt.join sep ys).length ≤ (ys.map (·.length)).sum + ys.length * sep.length := by
  have h := size_glued sep ys
  unfold Txt.join
  rw [h]
  have : (ys.length - 1) * sep.length ≤ ys.length * sep.length := Nat.mul_le_mul_right _ (Nat.sub_le _ _)
  omega
theorem sum_len {α : Type} {f : α → Str} {B : Nat} : ∀ {l : List α}, (∀ x ∈ l, (f x).length ≤ B) → ((l.map f).map (·.length)).sum ≤ l.length * B
  | [], _ => Nat.zero_le _
  | x :: l, h => by
    have h1 := h x List.mem_cons_self
    have h2 := sum_len (l := l) fun y hy => h y (List.mem_cons_of_mem _ hy)
    rw [List.map_cons, List.map_cons, List.sum_cons, List.length_cons, Nat.add_mul]
    omega
theorem term_len : ∀ (k : Nat) {d : PyData}, okTm k d → (termT k d).length ≤ lenB k
  | k, d, h => by
    have hk := lenB_19 k
    rcases h.cases with ⟨z, rfl, hz, _⟩ | ⟨a, b, rfl, ha, hb⟩ | ⟨j, rfl, s, n, ts, rfl, hs, hn, h1, h2, hts⟩
    · have e : termT k (.str z) = quoT z := by cases k <;> rfl
      rw [e]
      show (("'" : Str) ++ z ++ ("'" : Str)).length ≤ _
      rw [cat_len, cat_len]
      have : ("'" : Str).length = 1 := by decide
      omega
    · have e : termT k (.tuple [a, b]) = dotT a b := by cases k <;> rfl
      rw [e]
      exact Nat.le_trans (dot_len ha hb) hk
    · show (dotT s n ++ ("(" : Str) ++ Txt.join (", " : Str) (ts.map (termT j)) ++ (")" : Str)).length ≤ 2 * lenB j + 40
      rw [cat_len, cat_len, cat_len]
      have q1 := dot_len hs hn
      have q2 := join_len (", " : Str) (ts.map (termT j))
      have q3 := sum_len (f := termT j) (B := lenB j) (l := ts) fun t ht => term_len j (hts t ht)
      have q4 : ts.length * lenB j ≤ 2 * lenB j := Nat.mul_le_mul_right _ h2
      have e1 : (", " : Str).length = 2 := by decide
      have e2 : ("(" : Str).length = 1 := by decide
      have e3 : (")" : Str).length = 1 := by decide
      rw [List.length_map, e1] at q2
      omega
/-! ### the program's defs -/
abbrev sWrite : Stmt := top 31
abbrev sDotted : Stmt := top 32
abbrev sQuoted : Stmt := top 33
abbrev sValues : Stmt := top 34
abbrev sTerm : Stmt := top 35
abbrev sTold : Stmt := top 36
abbrev sSource : Stmt := top 37
abbrev sCond : Stmt := top 38
structure Bm (mg : Str → Option Value) : Prop extends Bl mg where
  isi : mg "isinstance" = none
  str : mg "str" = none
/-- a def of data that gives a text -/
def spT (ok : PyData → Prop) (f : PyData → Str) : Sp := fun vs H Q _ => ∃ v d, vs = [v] ∧ DT H v d ∧ ok d ∧ ∀ H', Same H H' → Q (.str (f d)) H'
def spDot : Sp := fun vs H Q _ => ∃ v u d e, vs = [v, u] ∧ DT H v d ∧ DT H u e ∧ okO d ∧ okN e ∧ ∀ H', Same H H' → Q (.str (dotT d e)) H'
def spQuo : Sp := fun vs H Q _ => ∃ z, vs = [.str z] ∧ nm z ∧ ∀ H', Same H H' → Q (.str (quoT z)) H'
theorem line_ge {n : Nat} (h : n ≤ 100000) : n ≤ sizeLine := Nat.le_trans h (by decide)
theorem ty_str {K : PySem.W.Frag} {H : Hp} {z : Str} : TyX K H (.str z) (.type "str") := .base (.str z)
theorem ty_tup {K : PySem.W.Frag} {H : Hp} {a : Addr} {xs : List V} (h : H a = some (.tup xs)) : TyX K H (.ref a) (.type "tuple") := .base (.tup h)
theorem ss : kitB "str" "str" = some true := by decide +kernel
theorem ts : kitB "tuple" "str" = some false := by decide +kernel
theorem tt : kitB "tuple" "tuple" = some true := by decide +kernel
theorem st : kitB "str" "tuple" = some false := by decide +kernel
section
variable {P : Program} {w : World} {K : PySem.W.Frag} {mg : Str → Option Value} {base : Heap}
theorem scDotted : FnScope ["first", "name"] ["first", "name"] (defScope sDotted) := ⟨rfl, rfl, rfl, by decide +kernel, rfl, by decide +kernel, by decide +kernel⟩
theorem ok_dotted {f : Addr} {fd : FuncData} (F : Fun K "dotted" "dotted" sDotted f fd) : FnOk P w K mg base CX0 1 f fd ["first", "name"] spDot := by
  refine Fun.okW F scDotted (fun vs H Q E h => by obtain ⟨v, u, d, e, rfl, _⟩ := h; rfl) (fun cdv B out s H vs Q E hr h => ?_)
  obtain ⟨v, u, d, e, rfl, hv, hu, hd, ⟨z, rfl, hz, _⟩, q⟩ := h
  have eu := hu.strE
  subst eu
  refine l_cons (s_if (t_isN (e_var 0 rfl ?_)))
  rcases hd with rfl | ⟨y, rfl, hy, _⟩
  · have ev := hv.nonE
    subst ev
    exact ⟨fun _ => l_one (s_ret (e_var 1 rfl (q _ (Same.refl _)))), fun e => by simp at e⟩
  · have ev := hv.strE
    subst ev
    refine ⟨fun e => by simp at e, fun _ => l_nil ?_⟩
    refine l_one (s_ret (e_addS (e_addS (e_var 0 rfl (e_str ⟨y, _, rfl, rfl, ?_, e_var 1 rfl ⟨_, z, rfl, rfl, ?_, q _ (Same.refl _)⟩⟩)))))
    · have : ("." : Str).length = 1 := by decide
      exact line_ge (by omega)
    · have : ("." : Str).length = 1 := by decide
      rw [cat_len]
      exact line_ge (by omega)
theorem scQuoted : FnScope ["word"] ["word"] (defScope sQuoted) := ⟨rfl, rfl, rfl, by decide +kernel, rfl, by decide +kernel, by decide +kernel⟩
theorem ok_quoted {f : Addr} {fd : FuncData} (F : Fun K "quoted" "quoted" sQuoted f fd) : FnOk P w K mg base CX0 1 f fd ["word"] spQuo := by
  refine Fun.okW F scQuoted (fun vs H Q E h => by obtain ⟨v, rfl, _⟩ := h; rfl) (fun cdv B out s H vs Q E hr h => ?_)
  obtain ⟨z, rfl, ⟨hz, _⟩, q⟩ := h
  have : ("'" : Str).length = 1 := by decide
  refine l_one (s_ret (e_addS (e_addS (e_str (e_var 0 rfl ⟨_, z, rfl, rfl, line_ge (by omega), e_str ⟨_, _, rfl, rfl, ?_, q _ (Same.refl _)⟩⟩)))))
  rw [cat_len]
  exact line_ge (by omega)
end
end K13W

namespace K13W
open PySem PySem.Spec PyProof.Rows L2 My
/-- what one element of a join gives -/
theorem same_at {H1 H2 : Hp} {D : Addr} {o : HO} (s : Same H1 H2) (h : H1 D = some o) : H2 D = some o := s _ _ h
section
variable {X : Cx} {σ : L2.St} {H : Hp} {Q : VK} {pos pos2 apos : Pos} {elt : Expr} {scope : Scope} {x : Str} {iter o : Expr}
/-- sep.join([f(x) for x in a tuple of data]), f giving texts and leaving all as it was -/
theorem e_joinT {pt : Pos} (j : Nat) (f : PyData → Str) (ok : PyData → Prop) (B : Nat) (hN : X.N.Nodup) (okb : BlkOk X.N X.env.scope scope [(x, j)])
    (h : WE X o σ H fun sv H0 => ∃ sep : Str, sv = .str sep ∧ sep.length ≤ 10 ∧ WE X iter σ H0 fun v H1 => ∃ ds, DT H1 v (.tuple ds) ∧ ds.length ≤ 100 ∧ (∀ d ∈ ds, ok d ∧ (f d).length ≤ B) ∧ B ≤ 100000 ∧
      (∀ d u H2, ok d → DT H2 u d → WB X scope elt ((wipe σ [j]).set j (some u)) H2 fun y H3 => y = .str (f d) ∧ Same H2 H3) ∧ ∀ H2, Same H1 H2 → Q (.str (Txt.join sep (ds.map f))) H2)
    (hg : ∀ (s : Shared) (H : Hp) (C : Addr) (cl : List (Str × Addr)) (fp : List Addr), PG (X.blk s H scope (compEnvC scope cl C X.env) fp) (.Name x pt) (gName j))
    (hc : X.calm = true := by rfl) (hs : ∀ z, foldedSetIterable iter X.env z = pure z := by intro _; rfl)
    (hst : starEach [.ListComp elt [⟨.Name x pt, iter, [], 0⟩] scope pos2] X.env = [(false, eval (.ListComp elt [⟨.Name x pt, iter, [], 0⟩] scope pos2) X.env)] := by rfl)
    (hbase : attributeBase o "join" X.env (eval o X.env) = eval o X.env := by rfl) (hline : (apos.endLine == pos.line) = true := by rfl) :
    WE X (.Call (.Attribute o "join" apos) [.ListComp elt [⟨.Name x pt, iter, [], 0⟩] scope pos2] [] pos) σ H Q := by
  refine toE (pe_join pE pE hst hbase hline) (WE.mono h fun sv H0 ⟨sep, e, hsep, h⟩ => ⟨⟨sep, e⟩, ?_⟩)
  refine e_lcT j hN okb (WE.mono h fun v H1 ⟨ds, hd, hl, hok, hB, hel, q⟩ => ?_) hg hc hs
  obtain ⟨a, xs, rfl, ha, hds⟩ := hd.tupE
  have hlx := hds.length
  refine ⟨a, xs, rfl, .inl (.inl ha), fun D nD => ⟨fun i H' => Same H1 H' ∧ H' D = some (.lst (((ds.map f).take i).map V.str)), ⟨same_new nD, by rw [upd_same]; rfl⟩, fun i H' hi p => .inl (.inl (p.1 _ _ ha)), fun i y H' hi p => ?_, fun H' p => ?_⟩⟩
  · obtain ⟨d, hdi, hyd⟩ := hds.get hi
    obtain ⟨okd, _⟩ := hok d (List.mem_of_getElem? hdi)
    have hlt : i < ds.length := (List.getElem?_eq_some_iff.mp hdi).1
    refine fun s0 H00 C cl fp => WE.mono (hel d y H' okd (hyd.mono (My.Same.tups p.1)) s0 H00 C cl fp) fun z H4 ⟨ez, s4⟩ => ?_
    subst ez
    refine ⟨_, s4 _ _ p.2, ?_, same_mut (p.1.trans s4) nD, ?_⟩
    · rw [List.length_map, List.length_take, List.length_map]
      exact Nat.lt_of_lt_of_le (show _ < 101 by omega) (by decide)
    · rw [upd_same, List.take_add_one, List.getElem?_map, hdi, List.map_append]
      rfl
  · rw [hlx] at p
    have et : (ds.map f).take ds.length = ds.map f := by
      rw [← List.length_map (f := f) (as := ds)]
      exact List.take_length
    rw [et] at p
    refine ⟨sep, D, ds.map f, e, rfl, .inl (.inl (.inl p.2)), ?_, q H' p.1⟩
    have q1 := sum_len (f := f) (B := B) (l := ds) fun d hd => (hok d hd).2
    have q2 : ds.length * B ≤ 100 * 100000 := Nat.mul_le_mul hl hB
    have q3 : (ds.map f).length * sep.length ≤ 100 * 10 := Nat.mul_le_mul (by rw [List.length_map]; exact hl) hsep
    omega
end
section
variable {P : Program} {w : World} {K : PySem.W.Frag} {mg : Str → Option Value} {base : Heap}
theorem scTerm : FnScope ["term", "inner"] ["term"] (defScope sTerm) := ⟨rfl, rfl, rfl, by decide +kernel, rfl, by decide +kernel, by decide +kernel⟩
theorem at_1 {α : Type} (a b c d : α) : atI [a, b, c, d] 1 = some b := rfl
theorem at_2 {α : Type} (a b c d : α) : atI [a, b, c, d] 2 = some c := rfl
theorem at_3 {α : Type} (a b c d : α) : atI [a, b, c, d] 3 = some d := rfl
theorem at_0 {α : Type} (a b c d : α) : atI [a, b, c, d] 0 = some a := rfl
theorem b0 {α : Type} (a b : α) : atI [a, b] 0 = some a := rfl
theorem b1 {α : Type} (a b : α) : atI [a, b] 1 = some b := rfl
theorem ok_term {f : Addr} {fd : FuncData} (F : Fun K "text_of_term" "text_of_term" sTerm f fd) (bd : Binds K fd ["term"] []) (hm : mg "text_of_term" = some (.ref f)) (G : Bm mg) (cD : CalN P w K mg base 1 "dotted" spDot) (cQ : CalN P w K mg base 1 "quoted" spQuo) :
    ∀ k, k ≤ 6 → FnOk P w K mg base CX0 (k + 2) f fd ["term"] (spT (okTm k) (termT k)) := by
  intro k
  induction k with
  | zero =>
    intro _
    refine Fun.okW F scTerm (fun vs H Q E h => by obtain ⟨v, d, rfl, _⟩ := h; rfl) (fun cdv B out s H vs Q E hr h => ?_)
    obtain ⟨v, d, rfl, hv, hd, q⟩ := h
    rcases hd with ⟨z, rfl, hz⟩ | ⟨a, b, rfl, ha, hb⟩
    · have ev := hv.strE
      subst ev
      refine l_cons (s_if (t_val (e_isi G.isi G.str PyProof.Rows.boot_str (e_var 0 rfl ⟨"str", true, ty_str, ss, true, rfl, fun _ => ?_, fun e => Bool.noConfusion e⟩))))
      exact l_one (s_ret (e_c cQ hr (by decide) (a_cons (e_var 0 rfl (a_nil ⟨z, rfl, hz, fun H' s' => q H' s'⟩)))))
    · obtain ⟨t, x, y, rfl, ht, hx, hy⟩ := hv.tup2
      refine l_cons (s_if (t_val (e_isi G.isi G.str PyProof.Rows.boot_str (e_var 0 rfl ⟨"tuple", false, ty_tup ht, ts, false, rfl, fun e => Bool.noConfusion e, fun _ => l_nil ?_⟩))))
      refine l_cons (s_if (t_eq (e_len G.len (e_var 0 rfl ⟨t, _, rfl, .inr (.inl (.inl ht)), e_int ⟨rfl, fun _ => ?_, fun e => by simp at e⟩⟩))))
      refine l_one (s_ret (e_c cD hr (by decide) (a_cons (e_ixT (e_var 0 rfl (e_int ⟨t, _, 0, _, rfl, rfl, .inl (.inl ht), b0 _ _, a_cons (e_ixT (e_var 0 rfl (e_int ⟨t, _, 1, _, rfl, rfl, .inl (.inl ht), b1 _ _, a_nil ⟨x, y, a, b, rfl, hx, hy, ha, hb, q⟩⟩)))⟩))))))
  | succ k ih =>
    intro hk
    have cT : CalN P w K mg base (k + 2) "text_of_term" (spT (okTm k) (termT k)) := ⟨f, fd, _, ih (by omega), hm, F.kp, bd⟩
    refine Fun.okW F scTerm (fun vs H Q E h => by obtain ⟨v, d, rfl, _⟩ := h; rfl) (fun cdv B out s H vs Q E hr h => ?_)
    obtain ⟨v, d, rfl, hv, hd, q⟩ := h
    rcases hd with ⟨z, rfl, hz⟩ | ⟨a, b, rfl, ha, hb⟩ | ⟨sc, n, ts', rfl, hs, hn, h1, h2, hts⟩
    · have ev := hv.strE
      subst ev
      refine l_cons (s_if (t_val (e_isi G.isi G.str PyProof.Rows.boot_str (e_var 0 rfl ⟨"str", true, ty_str, ss, true, rfl, fun _ => ?_, fun e => Bool.noConfusion e⟩))))
      exact l_one (s_ret (e_c cQ hr (by omega) (a_cons (e_var 0 rfl (a_nil ⟨z, rfl, hz, fun H' s' => q H' s'⟩)))))
    · obtain ⟨t, x, y, rfl, ht, hx, hy⟩ := hv.tup2
      refine l_cons (s_if (t_val (e_isi G.isi G.str PyProof.Rows.boot_str (e_var 0 rfl ⟨"tuple", false, ty_tup ht, ts, false, rfl, fun e => Bool.noConfusion e, fun _ => l_nil ?_⟩))))
      refine l_cons (s_if (t_eq (e_len G.len (e_var 0 rfl ⟨t, _, rfl, .inr (.inl (.inl ht)), e_int ⟨rfl, fun _ => ?_, fun e => by simp at e⟩⟩))))
      refine l_one (s_ret (e_c cD hr (by omega) (a_cons (e_ixT (e_var 0 rfl (e_int ⟨t, _, 0, _, rfl, rfl, .inl (.inl ht), b0 _ _, a_cons (e_ixT (e_var 0 rfl (e_int ⟨t, _, 1, _, rfl, rfl, .inl (.inl ht), b1 _ _, a_nil ⟨x, y, a, b, rfl, hx, hy, ha, hb, q⟩⟩)))⟩))))))
    · obtain ⟨t, x, y, z, u, rfl, ht, hx, hy, hz, hu⟩ := hv.tup4
      refine l_cons (s_if (t_val (e_isi G.isi G.str PyProof.Rows.boot_str (e_var 0 rfl ⟨"tuple", false, ty_tup ht, ts, false, rfl, fun e => Bool.noConfusion e, fun _ => l_nil ?_⟩))))
      refine l_cons (s_if (t_eq (e_len G.len (e_var 0 rfl ⟨t, _, rfl, .inr (.inl (.inl ht)), e_int ⟨rfl, fun e => by simp at e, fun _ => l_nil ?_⟩⟩))))
      refine l_one (s_ret (e_addS (e_addS (e_addS (e_c cD hr (by omega) (a_cons (e_ixT (e_var 0 rfl (e_int ⟨t, _, 1, _, rfl, rfl, .inl (.inl ht), at_1 _ _ _ _, a_cons (e_ixT (e_var 0 rfl (e_int ⟨t, _, 2, _, rfl, rfl, .inl (.inl ht), at_2 _ _ _ _, a_nil ⟨y, z, sc, n, rfl, hy, hz, hs, hn, fun H1 s1 => ?_⟩⟩)))⟩)))))))))
      have q1 := dot_len hs hn
      have ht1 := s1 _ _ ht
      have e1 : ("(" : Str).length = 1 := by decide
      have e2 : (")" : Str).length = 1 := by decide
      refine e_str ⟨_, _, rfl, rfl, line_ge (by omega), ?_⟩
      have lk := lenB_le k (by omega)
      refine e_joinT 1 (termT k) (okTm k) (lenB k) scTerm.nd (blkOk_by (N := ["term", "inner"]) (sc := defScope sTerm) (by decide +kernel)) (e_str ⟨_, rfl, by decide, e_ixT (e_var 0 rfl (e_int ⟨t, _, 3, _, rfl, rfl, .inl (.inl ht1), at_3 _ _ _ _, ts', hu.mono (My.Same.tups s1), by omega, fun d hd => ⟨hts d hd, term_len k (hts d hd)⟩, by omega, ?_, fun H2 s2 => ?_⟩))⟩) (fun _ _ _ _ _ => pg_name (i := 1) scTerm.nd rfl (Or.inl rfl))
      · intro d u' H2 okd hud s0 H0 C cl fp
        exact e_c cT hr (Nat.le_refl _) (a_cons (e_var 1 rfl (a_nil ⟨u', d, rfl, hud, okd, fun H3 s3 => ⟨rfl, s3⟩⟩)))
      · have q2 := join_len (", " : Str) (ts'.map (termT k))
        have q3 := sum_len (f := termT k) (B := lenB k) (l := ts') fun t ht => term_len k (hts t ht)
        have q4 : ts'.length * lenB k ≤ 2 * lenB k := Nat.mul_le_mul_right _ h2
        have e3 : (", " : Str).length = 2 := by decide
        rw [List.length_map, e3] at q2
        refine ⟨_, _, rfl, rfl, ?_, e_str ⟨_, _, rfl, rfl, ?_, q _ (s1.trans s2)⟩⟩
        · rw [cat_len]
          exact line_ge (by omega)
        · rw [cat_len, cat_len]
          exact line_ge (by omega)
end
end K13W

namespace K13W
open PySem PySem.Spec PyProof.Rows L2 My
/-! ### told things, sources, conditions -/
def okTold (d : PyData) : Prop := (∃ n, d = .tuple [.str "star", n] ∧ okN n) ∨ (∃ a b n, d = .tuple [.str "column", .tuple [a, b], n] ∧ okO a ∧ okN b ∧ okN n) ∨
  ∃ t n, d = .tuple [.str "term", t, n] ∧ (okN t ∨ okK (okTm 2) t) ∧ okN n
def okSrc (d : PyData) : Prop := ∃ s n l, d = .tuple [s, n, l] ∧ okO s ∧ okN n ∧ okN l
def okCond (d : PyData) : Prop := (∃ a b, d = .tuple [.str "equal", a, b] ∧ okC a ∧ okC b) ∨ ∃ a ds, d = .tuple [.str "in", a, .tuple ds] ∧ okC a ∧ ds.length ≤ 8 ∧ ∀ x ∈ ds, okN x
theorem okTm_of {t : PyData} (h : okN t ∨ okK (okTm 2) t) : okTm 3 t := by
  rcases h with h | h
  · exact .inl h
  · exact .inr (.inr h)
theorem sv_len {n : PyData} (h : okN n) : (sv n).length ≤ 9 := by obtain ⟨z, rfl, hz, _⟩ := h; exact hz
theorem quo_len {z : Str} (h : z.length ≤ 9) : (quoT z).length ≤ 11 := by
  unfold quoT
  rw [cat_len, cat_len]
  have : ("'" : Str).length = 1 := by decide
  omega
theorem vals_len {ds : List PyData} (h : ds.length ≤ 8) (k : ∀ x ∈ ds, okN x) : (valsT ds).length ≤ 200 := by
  unfold valsT
  rw [cat_len, cat_len]
  have q2 := join_len (", " : Str) (ds.map fun d => quoT (sv d))
  have q3 := sum_len (f := fun d => quoT (sv d)) (B := 11) (l := ds) fun t ht => quo_len (sv_len (k t ht))
  have e1 : (", " : Str).length = 2 := by decide
  have e2 : ("(" : Str).length = 1 := by decide
  have e3 : (")" : Str).length = 1 := by decide
  rw [List.length_map, e1] at q2
  omega
theorem told_len {d : PyData} (h : okTold d) : (toldT d).length ≤ 1000 := by
  rcases h with ⟨n, rfl, hn⟩ | ⟨a, b, n, rfl, ha, hb, hn⟩ | ⟨t, n, rfl, ht, hn⟩
  · show (sv n ++ (".*" : Str)).length ≤ _
    rw [cat_len]
    have := sv_len hn
    have : (".*" : Str).length = 2 := by decide
    omega
  · show (if sv b = sv n then dotT a b else dotT a b ++ (" as " : Str) ++ sv n).length ≤ _
    have q := dot_len ha hb
    have := sv_len hn
    have : (" as " : Str).length = 4 := by decide
    split
    · omega
    · rw [cat_len, cat_len]
      omega
  · have e : toldT (.tuple [.str "term", t, n]) = termT 3 t ++ (" as " : Str) ++ sv n := by
      rcases ht with ⟨z, rfl, _⟩ | ⟨s, m, ts, rfl, _⟩ <;> rfl
    rw [e, cat_len, cat_len]
    have q := term_len 3 (okTm_of ht)
    have : lenB 3 = 432 := by decide
    have := sv_len hn
    have : (" as " : Str).length = 4 := by decide
    omega
theorem src_len {d : PyData} (h : okSrc d) : (srcT d).length ≤ 100 := by
  obtain ⟨s, n, l, rfl, hs, hn, hl⟩ := h
  show (if sv l = sv n then dotT s n else dotT s n ++ (" " : Str) ++ sv l).length ≤ _
  have q := dot_len hs hn
  have := sv_len hl
  have : (" " : Str).length = 1 := by decide
  split
  · omega
  · rw [cat_len, cat_len]
    omega
theorem cell_len {d : PyData} (h : okC d) : (cellT d).length ≤ 19 := by
  obtain ⟨a, b, rfl, ha, hb⟩ := h
  exact dot_len ha hb
theorem cond_eq (a b : PyData) (hb : okC b) : condT (.tuple [.str "equal", a, b]) = cellT a ++ (" = " : Str) ++ cellT b := by
  obtain ⟨x, y, rfl, _⟩ := hb
  rfl
theorem ne4 : ¬ ("in" : Str) = "equal" := by decide +kernel
theorem cond_in (a : PyData) (ds : List PyData) : condT (.tuple [.str "in", a, .tuple ds]) = cellT a ++ (" in " : Str) ++ valsT ds := by
  show (if ("in" : Str) = "equal" then cellT a ++ (" = " : Str) ++ cellT (.tuple ds) else cellT a ++ (" in " : Str) ++ valsT ds) = _
  rw [if_neg ne4]
theorem cond_len {d : PyData} (h : okCond d) : (condT d).length ≤ 300 := by
  rcases h with ⟨a, b, rfl, ha, hb⟩ | ⟨a, ds, rfl, ha, hl, hd⟩
  · rw [cond_eq a b hb, cat_len, cat_len]
    have := cell_len ha
    have := cell_len hb
    have : (" = " : Str).length = 3 := by decide
    omega
  · rw [cond_in, cat_len, cat_len]
    have := cell_len ha
    have := vals_len hl hd
    have : (" in " : Str).length = 4 := by decide
    omega
theorem c0 {α : Type} (a b c : α) : atI [a, b, c] 0 = some a := rfl
theorem c1 {α : Type} (a b c : α) : atI [a, b, c] 1 = some b := rfl
theorem c2 {α : Type} (a b c : α) : atI [a, b, c] 2 = some c := rfl
theorem ne1 : ¬ ("column" : Str) = "star" := by decide +kernel
theorem ne2 : ¬ ("term" : Str) = "star" := by decide +kernel
theorem ne3 : ¬ ("term" : Str) = "column" := by decide +kernel
def spVals : Sp := fun vs H Q _ => ∃ v ds, vs = [v] ∧ DT H v (.tuple ds) ∧ ds.length ≤ 8 ∧ (∀ x ∈ ds, okN x) ∧ ∀ H', Same H H' → Q (.str (valsT ds)) H'
section
variable {P : Program} {w : World} {K : PySem.W.Frag} {mg : Str → Option Value} {base : Heap}
theorem scValues : FnScope ["values", "word"] ["values"] (defScope sValues) := ⟨rfl, rfl, rfl, by decide +kernel, rfl, by decide +kernel, by decide +kernel⟩
theorem ok_values {f : Addr} {fd : FuncData} (F : Fun K "text_of_values" "text_of_values" sValues f fd) (cQ : CalN P w K mg base 1 "quoted" spQuo) : FnOk P w K mg base CX0 2 f fd ["values"] spVals := by
  refine Fun.okW F scValues (fun vs H Q E h => by obtain ⟨v, d, rfl, _⟩ := h; rfl) (fun cdv B out s H vs Q E hr h => ?_)
  obtain ⟨v, ds, rfl, hv, hl, hd, q⟩ := h
  have vl := vals_len hl hd
  have e2 : ("(" : Str).length = 1 := by decide
  have e3 : (")" : Str).length = 1 := by decide
  unfold valsT at vl
  rw [cat_len, cat_len] at vl
  refine l_one (s_ret (e_addS (e_addS (e_str ?_))))
  refine e_joinT 1 (fun d => quoT (sv d)) okN 11 scValues.nd (blkOk_by (N := ["values", "word"]) (sc := defScope sValues) (by decide +kernel)) (e_str ⟨_, rfl, by decide, e_var 0 rfl ⟨ds, hv, by omega, fun d h => ⟨hd d h, quo_len (sv_len (hd d h))⟩, by omega, ?_, fun H2 s2 => ?_⟩⟩) (fun _ _ _ _ _ => pg_name (i := 1) scValues.nd rfl (Or.inl rfl))
  · intro d u' H2 okd hud s0 H0 C cl fp
    obtain ⟨z, rfl, hz⟩ := okd
    have eu := hud.strE
    subst eu
    exact e_c cQ hr (Nat.le_refl _) (a_cons (e_var 1 rfl (a_nil ⟨z, rfl, hz, fun H3 s3 => ⟨rfl, s3⟩⟩)))
  · refine ⟨_, _, rfl, rfl, line_ge (by omega), e_str ⟨_, _, rfl, rfl, ?_, q _ s2⟩⟩
    rw [cat_len]
    exact line_ge (by omega)
theorem scSource : FnScope ["source", "schema", "name", "label", "text"] ["source"] (defScope sSource) := ⟨rfl, rfl, rfl, by decide +kernel, rfl, by decide +kernel, by decide +kernel⟩
theorem ok_source {f : Addr} {fd : FuncData} (F : Fun K "text_of_source" "text_of_source" sSource f fd) (cD : CalN P w K mg base 1 "dotted" spDot) : FnOk P w K mg base CX0 2 f fd ["source"] (spT okSrc srcT) := by
  refine Fun.okW F scSource (fun vs H Q E h => by obtain ⟨v, d, rfl, _⟩ := h; rfl) (fun cdv B out s H vs Q E hr h => ?_)
  obtain ⟨v, d, rfl, hv, ⟨sc, n, l, rfl, hs, hn, hl⟩, q⟩ := h
  obtain ⟨t, x, y, z, rfl, ht, hx, hy, hz⟩ := hv.tup3
  refine l_cons (s_asg (pg_tup rfl (pgs_cons (pg_name (i := 1) scSource.nd rfl (.inl rfl)) (pgs_cons (pg_name (i := 2) scSource.nd rfl (.inl rfl)) (pgs_cons (pg_name (i := 3) scSource.nd rfl (.inl rfl)) pgs_nil)))) (e_var 0 rfl ⟨t, _, rfl, .inl (.inl ht), rfl, _, _, rfl, _, _, rfl, _, _, rfl, rfl, ?_⟩))
  refine l_cons (s_set 4 (e_c cD hr (by decide) (a_cons (e_var 1 rfl (a_cons (e_var 2 rfl (a_nil ⟨x, y, sc, n, rfl, hx, hy, hs, hn, fun H1 s1 => ?_⟩)))))) scSource.nd)
  obtain ⟨m, rfl, hm⟩ := hn
  obtain ⟨k, rfl, hk⟩ := hl
  have ey := hy.strE
  have ez := hz.strE
  subst ey ez
  have qd := dot_len hs ⟨m, rfl, hm⟩
  have e1 : (" " : Str).length = 1 := by decide
  have hk9 := hk.1
  refine l_cons (s_if (t_eq (e_var 3 rfl (e_var 2 rfl ⟨rfl, fun e => ?_, fun e => l_nil ?_⟩))))
  · have em : k = m := V.str.inj (of_decide_eq_true e)
    have q' := q H1 s1
    have er : srcT (.tuple [sc, .str m, .str k]) = dotT sc (.str m) := if_pos em
    rw [er] at q'
    exact l_one (s_ret (e_var 4 rfl q'))
  · have em : ¬ k = m := fun z => by simp [z] at e
    have q' := q H1 s1
    have er : srcT (.tuple [sc, .str m, .str k]) = dotT sc (.str m) ++ (" " : Str) ++ k := if_neg em
    rw [er] at q'
    refine l_one (s_ret (e_addS (e_addS (e_var 4 rfl (e_str ⟨_, _, rfl, rfl, line_ge (by omega), e_var 3 rfl ⟨_, _, rfl, rfl, ?_, q'⟩⟩)))))
    rw [cat_len]
    exact line_ge (by omega)
theorem scCond : FnScope ["condition", "word", "column", "other"] ["condition"] (defScope sCond) := ⟨rfl, rfl, rfl, by decide +kernel, rfl, by decide +kernel, by decide +kernel⟩
theorem ok_cond {f : Addr} {fd : FuncData} (F : Fun K "text_of_condition" "text_of_condition" sCond f fd) (cT : CalN P w K mg base 5 "text_of_term" (spT (okTm 3) (termT 3))) (cV : CalN P w K mg base 2 "text_of_values" spVals) : FnOk P w K mg base CX0 6 f fd ["condition"] (spT okCond condT) := by
  refine Fun.okW F scCond (fun vs H Q E h => by obtain ⟨v, d, rfl, _⟩ := h; rfl) (fun cdv B out s H vs Q E hr h => ?_)
  obtain ⟨v, d, rfl, hv, hd, q⟩ := h
  have ct : ∀ {c : PyData}, okC c → okTm 3 c ∧ termT 3 c = cellT c := fun {c} hc => ⟨.inr (.inl hc), by obtain ⟨a, b, rfl, _⟩ := hc; rfl⟩
  rcases hd with ⟨a, b, rfl, ha, hb⟩ | ⟨a, ds, rfl, ha, hl, hds⟩
  · obtain ⟨t, x, y, z, rfl, ht, hx, hy, hz⟩ := hv.tup3
    have ex := hx.strE
    subst ex
    rw [cond_eq a b hb] at q
    have la := cell_len ha
    have lb := cell_len hb
    have e1 : (" = " : Str).length = 3 := by decide
    refine l_cons (s_asg (pg_tup rfl (pgs_cons (pg_name (i := 1) scCond.nd rfl (.inl rfl)) (pgs_cons (pg_name (i := 2) scCond.nd rfl (.inl rfl)) (pgs_cons (pg_name (i := 3) scCond.nd rfl (.inl rfl)) pgs_nil)))) (e_var 0 rfl ⟨t, _, rfl, .inl (.inl ht), rfl, _, _, rfl, _, _, rfl, _, _, rfl, rfl, ?_⟩))
    refine l_cons (s_if (t_eq (e_var 1 rfl (e_str ⟨rfl, fun _ => ?_, fun e => by simp at e⟩))))
    refine l_one (s_ret (e_addS (e_addS (e_c cT hr (by decide) (a_cons (e_var 2 rfl (a_nil ⟨y, a, rfl, hy, (ct ha).1, fun H1 s1 => ?_⟩)))))))
    rw [(ct ha).2]
    refine e_str ⟨_, _, rfl, rfl, line_ge (by omega), e_c cT hr (by decide) (a_cons (e_var 3 rfl (a_nil ⟨z, b, rfl, hz.mono (My.Same.tups s1), (ct hb).1, fun H2 s2 => ?_⟩)))⟩
    rw [(ct hb).2]
    refine ⟨_, _, rfl, rfl, ?_, q _ (s1.trans s2)⟩
    rw [cat_len]
    exact line_ge (by omega)
  · obtain ⟨t, x, y, z, rfl, ht, hx, hy, hz⟩ := hv.tup3
    have ex := hx.strE
    subst ex
    rw [cond_in] at q
    have la := cell_len ha
    have lv := vals_len hl hds
    have e1 : (" in " : Str).length = 4 := by decide
    refine l_cons (s_asg (pg_tup rfl (pgs_cons (pg_name (i := 1) scCond.nd rfl (.inl rfl)) (pgs_cons (pg_name (i := 2) scCond.nd rfl (.inl rfl)) (pgs_cons (pg_name (i := 3) scCond.nd rfl (.inl rfl)) pgs_nil)))) (e_var 0 rfl ⟨t, _, rfl, .inl (.inl ht), rfl, _, _, rfl, _, _, rfl, _, _, rfl, rfl, ?_⟩))
    refine l_cons (s_if (t_eq (e_var 1 rfl (e_str ⟨rfl, fun e => absurd (V.str.inj (of_decide_eq_true e)) ne4, fun _ => l_nil ?_⟩))))
    refine l_one (s_ret (e_addS (e_addS (e_c cT hr (by decide) (a_cons (e_var 2 rfl (a_nil ⟨y, a, rfl, hy, (ct ha).1, fun H1 s1 => ?_⟩)))))))
    rw [(ct ha).2]
    refine e_str ⟨_, _, rfl, rfl, line_ge (by omega), e_c cV hr (by decide) (a_cons (e_var 3 rfl (a_nil ⟨z, ds, rfl, hz.mono (My.Same.tups s1), hl, hds, fun H2 s2 => ?_⟩)))⟩
    refine ⟨_, _, rfl, rfl, ?_, q _ (s1.trans s2)⟩
    rw [cat_len]
    exact line_ge (by omega)
theorem scTold : FnScope ["item", "text"] ["item"] (defScope sTold) := ⟨rfl, rfl, rfl, by decide +kernel, rfl, by decide +kernel, by decide +kernel⟩
theorem ok_told {f : Addr} {fd : FuncData} (F : Fun K "text_of_told" "text_of_told" sTold f fd) (cT : CalN P w K mg base 5 "text_of_term" (spT (okTm 3) (termT 3))) : FnOk P w K mg base CX0 6 f fd ["item"] (spT okTold toldT) := by
  refine Fun.okW F scTold (fun vs H Q E h => by obtain ⟨v, d, rfl, _⟩ := h; rfl) (fun cdv B out s H vs Q E hr h => ?_)
  obtain ⟨v, d, rfl, hv, hd, q⟩ := h
  have e4 : (" as " : Str).length = 4 := by decide
  rcases hd with ⟨n, rfl, ⟨m, rfl, hm⟩⟩ | ⟨a, b, n, rfl, ha, hb, hn⟩ | ⟨tm, n, rfl, htm, hn⟩
  · obtain ⟨t, x, y, rfl, ht, hx, hy⟩ := hv.tup2
    have ex := hx.strE
    have ey := hy.strE
    subst ex ey
    have e1 : (".*" : Str).length = 2 := by decide
    have hm9 := hm.1
    refine l_cons (s_if (t_eq (e_ixT (e_var 0 rfl (e_int ⟨t, _, 0, _, rfl, rfl, .inl (.inl ht), b0 _ _, e_str ⟨rfl, fun _ => ?_, fun e => by simp at e⟩⟩)))))
    exact l_one (s_ret (e_addS (e_ixT (e_var 0 rfl (e_int ⟨t, _, 1, _, rfl, rfl, .inl (.inl ht), b1 _ _, e_str ⟨_, _, rfl, rfl, line_ge (by omega), q _ (Same.refl _)⟩⟩)))))
  · obtain ⟨t, x, y, z, rfl, ht, hx, hy, hz⟩ := hv.tup3
    have ex := hx.strE
    subst ex
    refine l_cons (s_if (t_eq (e_ixT (e_var 0 rfl (e_int ⟨t, _, 0, _, rfl, rfl, .inl (.inl ht), c0 _ _ _, e_str ⟨rfl, fun e => absurd (V.str.inj (of_decide_eq_true e)) ne1, fun _ => l_nil ?_⟩⟩)))))
    refine l_cons (s_set 1 (e_c cT hr (by decide) (a_cons (e_ixT (e_var 0 rfl (e_int ⟨t, _, 1, _, rfl, rfl, .inl (.inl ht), c1 _ _ _, a_nil ⟨y, _, rfl, hy, .inr (.inl ⟨a, b, rfl, ha, hb⟩), fun H1 s1 => ?_⟩⟩))))) scTold.nd)
    have ht1 := s1 _ _ ht
    obtain ⟨t2, x2, y2, rfl, ht2, hx2, hy2⟩ := (hy.mono (My.Same.tups s1)).tup2
    have qd := dot_len ha hb
    obtain ⟨m, rfl, hm⟩ := hb
    obtain ⟨k, rfl, hk⟩ := hn
    have hk9 := hk.1
    have ey2 := hy2.strE
    have ez := hz.strE
    subst ey2 ez
    refine l_cons (s_if (t_w (w_and (t_eq (e_ixT (e_var 0 rfl (e_int ⟨t, _, 0, _, rfl, rfl, .inl (.inl ht1), c0 _ _ _, e_str ⟨rfl, fun _ => ?_, fun e => by simp at e⟩⟩)))))))
    refine w_and1 (t_eq (e_ixT (e_ixT (e_var 0 rfl (e_int ⟨t, _, 1, _, rfl, rfl, .inl (.inl ht1), c1 _ _ _, e_int ⟨t2, _, 1, _, rfl, rfl, .inl (.inl ht2), b1 _ _, e_ixT (e_var 0 rfl (e_int ⟨t, _, 2, _, rfl, rfl, .inl (.inl ht1), c2 _ _ _, rfl, fun e => ?_, fun e => l_nil ?_⟩))⟩⟩)))))
    · have em : m = k := V.str.inj (of_decide_eq_true e)
      have q' := q H1 s1
      have er : toldT (.tuple [.str "column", .tuple [a, .str m], .str k]) = dotT a (.str m) := if_pos em
      rw [er] at q'
      exact l_one (s_ret (e_var 1 rfl q'))
    · have em : ¬ m = k := fun z => by simp [z] at e
      have q' := q H1 s1
      have er : toldT (.tuple [.str "column", .tuple [a, .str m], .str k]) = dotT a (.str m) ++ (" as " : Str) ++ k := if_neg em
      rw [er] at q'
      refine l_one (s_ret (e_addS (e_addS (e_var 1 rfl (e_str ⟨dotT a (.str m), _, rfl, rfl, line_ge (by omega), e_ixT (e_var 0 rfl (e_int ⟨t, _, 2, _, rfl, rfl, .inl (.inl ht1), c2 _ _ _, _, _, rfl, rfl, ?_, q'⟩))⟩)))))
      rw [cat_len]
      exact line_ge (by omega)
  · obtain ⟨t, x, y, z, rfl, ht, hx, hy, hz⟩ := hv.tup3
    have ex := hx.strE
    subst ex
    have tl := term_len 3 (okTm_of htm)
    have : lenB 3 = 432 := by decide
    have er : toldT (.tuple [.str "term", tm, n]) = termT 3 tm ++ (" as " : Str) ++ sv n := by
      rcases htm with ⟨z, rfl, _⟩ | ⟨s, m, ts, rfl, _⟩ <;> rfl
    rw [er] at q
    obtain ⟨k, rfl, hk⟩ := hn
    have hk9 := hk.1
    have ez := hz.strE
    subst ez
    refine l_cons (s_if (t_eq (e_ixT (e_var 0 rfl (e_int ⟨t, _, 0, _, rfl, rfl, .inl (.inl ht), c0 _ _ _, e_str ⟨rfl, fun e => absurd (V.str.inj (of_decide_eq_true e)) ne2, fun _ => l_nil ?_⟩⟩)))))
    refine l_cons (s_set 1 (e_c cT hr (by decide) (a_cons (e_ixT (e_var 0 rfl (e_int ⟨t, _, 1, _, rfl, rfl, .inl (.inl ht), c1 _ _ _, a_nil ⟨y, _, rfl, hy, okTm_of htm, fun H1 s1 => ?_⟩⟩))))) scTold.nd)
    have ht1 := s1 _ _ ht
    refine l_cons (s_if (t_w (w_and (t_eq (e_ixT (e_var 0 rfl (e_int ⟨t, _, 0, _, rfl, rfl, .inl (.inl ht1), c0 _ _ _, e_str ⟨rfl, fun e => absurd (V.str.inj (of_decide_eq_true e)) ne3, fun _ => ⟨fun e => Bool.noConfusion e, fun _ => l_nil ?_⟩⟩⟩)))))))
    refine l_one (s_ret (e_addS (e_addS (e_var 1 rfl (e_str ⟨termT 3 tm, _, rfl, rfl, line_ge (by omega), e_ixT (e_var 0 rfl (e_int ⟨t, _, 2, _, rfl, rfl, .inl (.inl ht1), c2 _ _ _, _, _, rfl, rfl, ?_, q _ s1⟩))⟩)))))
    rw [cat_len]
    exact line_ge (by omega)
end
end K13W

namespace K13W
open PySem PySem.Spec PyProof.Rows L2 My
def okL (ok : PyData → Prop) (ds : List PyData) : Prop := ds.length ≤ 8 ∧ ∀ d ∈ ds, ok d
def okSt (d : PyData) : Prop := ∃ b ts ss cs, d = .tuple [.bool b, .tuple ts, .tuple ss, .tuple cs] ∧ okL okTold ts ∧ okL okSrc ss ∧ okL okCond cs
def comma : Str := ", "
theorem empty_cat (x : Str) : x ++ Str.empty = x := str_ext (by rw [str_cat]; show x.cps.toList ++ [] = _; rw [List.append_nil])
theorem cat_empty (x : Str) : Str.empty ++ x = x := str_ext (by rw [str_cat]; rfl)
theorem join8 {sep : Str} {f : PyData → Str} {ok : PyData → Prop} {B : Nat} {ds : List PyData} (h : okL ok ds) (hs : sep.length ≤ 10) (hf : ∀ d, ok d → (f d).length ≤ B) : (Txt.join sep (ds.map f)).length ≤ 8 * B + 80 := by
  have q2 := join_len sep (ds.map f)
  have q3 := sum_len (f := f) (B := B) (l := ds) fun t ht => hf t (h.2 t ht)
  have q4 : ds.length * B ≤ 8 * B := Nat.mul_le_mul_right _ h.1
  have q5 : ds.length * sep.length ≤ 8 * 10 := Nat.mul_le_mul h.1 hs
  rw [List.length_map] at q2
  omega
theorem sel_len (b : Bool) : (selT b).length ≤ 20 := by cases b <;> decide
/-! ### the forms as data: signs, sizes, depths -/
mutual
theorem lay_ok : ∀ d : PyData, okD d = true → PyData.canLay0 d = true
  | .none, _ => rfl
  | .bool _, _ => rfl
  | .str x, h => by
    show (x.cps.all (· < 0x110000)) = true
    rw [← Array.all_toList, List.all_eq_true]
    intro c hc
    have h1 : (x.cps.toList.all fun c => decide (c < 128)) = true := h
    have := of_decide_eq_true (List.all_eq_true.mp h1 c hc)
    exact decide_eq_true (by omega)
  | .tuple ds, h => lays_ok ds h
  | .int _, h => by cases h
  | .list _, h => by cases h
  | .dict _, h => by cases h
theorem lays_ok : ∀ ds : List PyData, okDs ds = true → PyData.canLayAll0 ds = true
  | [], _ => rfl
  | d :: ds, h => by
    have h' : (okD d && okDs ds) = true := h
    simp only [Bool.and_eq_true] at h'
    show (PyData.canLay0 d && PyData.canLayAll0 ds) = true
    rw [lay_ok d h'.1, lays_ok ds h'.2]
    rfl
end
/-- signs are small, the size at most n, the depth at most k -/
def Fine (n k : Nat) (d : PyData) : Prop := okD d = true ∧ szD d ≤ n ∧ d.depth ≤ k
theorem Fine.mono {n k m j : Nat} {d : PyData} (h : Fine n k d) (hn : n ≤ m) (hk : k ≤ j) : Fine m j d := ⟨h.1, Nat.le_trans h.2.1 hn, Nat.le_trans h.2.2 hk⟩
theorem Fine.tuple {n k : Nat} {ds : List PyData} (h : ∀ d ∈ ds, Fine n k d) : Fine (ds.length * (n + 2) + 5) (k + 1) (.tuple ds) :=
  ⟨okDs_of fun d hd => (h d hd).1, by show szDs ds + 5 ≤ _; have := szDs_of fun d hd => (h d hd).2.1; omega, by show PyData.depthAll ds + 1 ≤ _; have := depth_of fun d hd => (h d hd).2.2; omega⟩
theorem fineN {d : PyData} (h : okN d) : Fine 95 0 d := by obtain ⟨z, rfl, h1, h2⟩ := h; exact ⟨h2, by show 10 * z.length + 5 ≤ 95; omega, Nat.le_refl _⟩
theorem fineO {d : PyData} (h : okO d) : Fine 95 0 d := by
  rcases h with rfl | h
  · exact ⟨rfl, by decide, Nat.le_refl _⟩
  · exact fineN h
theorem fine2 {n k : Nat} {a b : PyData} (ha : Fine n k a) (hb : Fine n k b) : Fine (2 * (n + 2) + 5) (k + 1) (.tuple [a, b]) := Fine.tuple fun d hd => by
  simp only [List.mem_cons, List.not_mem_nil, or_false] at hd
  rcases hd with rfl | rfl <;> assumption
theorem fine3 {n k : Nat} {a b c : PyData} (ha : Fine n k a) (hb : Fine n k b) (hc : Fine n k c) : Fine (3 * (n + 2) + 5) (k + 1) (.tuple [a, b, c]) := Fine.tuple fun d hd => by
  simp only [List.mem_cons, List.not_mem_nil, or_false] at hd
  rcases hd with rfl | rfl | rfl <;> assumption
theorem fine4 {n k : Nat} {a b c e : PyData} (ha : Fine n k a) (hb : Fine n k b) (hc : Fine n k c) (he : Fine n k e) : Fine (4 * (n + 2) + 5) (k + 1) (.tuple [a, b, c, e]) := Fine.tuple fun d hd => by
  simp only [List.mem_cons, List.not_mem_nil, or_false] at hd
  rcases hd with rfl | rfl | rfl | rfl <;> assumption
theorem fineC {d : PyData} (h : okC d) : Fine 199 1 d := by obtain ⟨a, b, rfl, ha, hb⟩ := h; exact fine2 (fineO ha) (fineN hb)
def szB : Nat → Nat
  | 0 => 199
  | k + 1 => 8 * szB k + 100
theorem szB_ge : ∀ k, 199 ≤ szB k
  | 0 => Nat.le_refl _
  | k + 1 => by have := szB_ge k; show 199 ≤ 8 * szB k + 100; omega
theorem fineTm : ∀ (k : Nat) {d : PyData}, okTm k d → Fine (szB k) (2 * k + 1) d
  | k, d, h => by
    have hk := szB_ge k
    rcases h.cases with h | h | ⟨j, rfl, s, n, ts, rfl, hs, hn, h1, h2, hts⟩
    · exact (fineN h).mono (by omega) (by omega)
    · exact (fineC h).mono hk (by omega)
    · have ht : Fine (2 * (szB j + 2) + 5) (2 * j + 2) (.tuple ts) := (Fine.tuple fun d hd => fineTm j (hts d hd)).mono (Nat.add_le_add_right (Nat.mul_le_mul_right _ h2) _) (by omega)
      have hj := szB_ge j
      refine (fine4 (n := 2 * (szB j + 2) + 5) (k := 2 * j + 2) ?_ ((fineO hs).mono (by omega) (by omega)) ((fineN hn).mono (by omega) (by omega)) ht).mono (by show _ ≤ 8 * szB j + 100; omega) (by omega)
      exact ⟨by decide +kernel, by show 10 * 4 + 5 ≤ _; omega, Nat.zero_le _⟩
theorem fineTold {d : PyData} (h : okTold d) : Fine 600000 8 d := by
  have e3 : szB 3 = 109188 := by decide
  rcases h with ⟨n, rfl, hn⟩ | ⟨a, b, n, rfl, ha, hb, hn⟩ | ⟨t, n, rfl, ht, hn⟩
  · exact (fine2 (n := 95) (k := 0) ⟨by decide +kernel, by decide, Nat.zero_le _⟩ (fineN hn)).mono (by omega) (by omega)
  · exact (fine3 (n := 199) (k := 1) ⟨by decide +kernel, by decide, Nat.zero_le _⟩ (fineC ⟨a, b, rfl, ha, hb⟩) ((fineN hn).mono (by omega) (by omega))).mono (by omega) (by omega)
  · exact (fine3 (n := szB 3) (k := 7) ⟨by decide +kernel, by rw [e3]; decide, Nat.zero_le _⟩ (fineTm 3 (okTm_of ht)) ((fineN hn).mono (by omega) (by omega))).mono (by omega) (by omega)
theorem fineSrc {d : PyData} (h : okSrc d) : Fine 300 1 d := by
  obtain ⟨s, n, l, rfl, hs, hn, hl⟩ := h
  exact (fine3 (fineO hs) (fineN hn) (fineN hl)).mono (by omega) (by omega)
theorem fineCond {d : PyData} (h : okCond d) : Fine 3000 3 d := by
  rcases h with ⟨a, b, rfl, ha, hb⟩ | ⟨a, ds, rfl, ha, hl, hd⟩
  · exact (fine3 (n := 199) (k := 1) ⟨by decide +kernel, by decide, Nat.zero_le _⟩ (fineC ha) (fineC hb)).mono (by omega) (by omega)
  · have ht : Fine 781 1 (.tuple ds) := (Fine.tuple fun d h => fineN (hd d h)).mono (by have := Nat.mul_le_mul_right 97 hl; omega) (by omega)
    exact (fine3 (n := 781) (k := 1) ⟨by decide +kernel, by decide, Nat.zero_le _⟩ ((fineC ha).mono (by omega) (by omega)) ht).mono (by omega) (by omega)
theorem fineL {ok : PyData → Prop} {n k : Nat} {ds : List PyData} (h : okL ok ds) (f : ∀ d, ok d → Fine n k d) : Fine (8 * (n + 2) + 5) (k + 1) (.tuple ds) :=
  (Fine.tuple fun d hd => f d (h.2 d hd)).mono (Nat.add_le_add_right (Nat.mul_le_mul_right _ h.1) _) (Nat.le_refl _)
theorem Fine.shaped {n k : Nat} {d : PyData} (h : Fine n k d) (hk : k ≤ 60) : SeqAt.shaped d = true := by
  show (PyData.canLay0 d && decide (PyData.depth d ≤ 64)) = true
  rw [lay_ok d h.1, decide_eq_true (Nat.le_trans h.2.2 (by omega))]
  rfl
section
variable {X : Cx} {e : Expr} {σ : L2.St} {H : Hp} {D : Ends} {pos pos' : Pos} {x : Str}
theorem s_augS (i : Nat) (h : ∃ z : Str, σ[i]? = some (some (.str z)) ∧ WE X e σ H fun y H1 => ∃ j, y = .str j ∧ z.length + j.length ≤ sizeLine ∧ D.nx (σ.set i (some (.str (z ++ j)))) H1) (hN : X.N.Nodup) (hi : X.N[i]? = some x := by rfl) (hx : Loc X.env.scope x := by first | exact Or.inl rfl | exact Or.inr rfl)
    (hf : X.fn x = true ∨ X.env.scope.names.lookup x = some .local := by first | exact .inl rfl | exact .inr rfl | assumption) : WS X (.AugAssign (.Name x pos') .Add e pos) D σ H := by
  obtain ⟨z, hz, h⟩ := h
  exact toS (ps_aug (ti := fun x y H Q => ∃ i j, x = .str i ∧ y = .str j ∧ i.length + j.length ≤ sizeLine ∧ Q (.str (i ++ j)) H) hN hi hx pE (fun pins s σ H x y u v Q I rx ry h => iop_add_str pins s σ H x y u v Q I rx ry h) hf)
    ⟨.str z, hz, WE.mono h fun y H1 ⟨j, ey, hl, q⟩ => ⟨z, j, rfl, ey, hl, q⟩⟩
end
section
variable {P : Program} {w : World} {K : PySem.W.Frag} {mg : Str → Option Value} {base : Heap}
theorem scWrite : FnScope ["statement", "distinct", "told", "sources", "conditions", "text", "item", "source", "condition"] ["statement"] (defScope sWrite) := ⟨rfl, rfl, rfl, by decide +kernel, rfl, by decide +kernel, by decide +kernel⟩
theorem ok_write {f : Addr} {fd : FuncData} (F : Fun K "write" "write" sWrite f fd) (cT : CalN P w K mg base 6 "text_of_told" (spT okTold toldT)) (cS : CalN P w K mg base 2 "text_of_source" (spT okSrc srcT)) (cC : CalN P w K mg base 6 "text_of_condition" (spT okCond condT)) : FnOk P w K mg base CX0 7 f fd ["statement"] (spT okSt writeT) := by
  refine Fun.okW F scWrite (fun vs H Q E h => by obtain ⟨v, d, rfl, _⟩ := h; rfl) (fun cdv B out s H vs Q E hr h => ?_)
  obtain ⟨v, d, rfl, hv, ⟨b, ts, ss, cs, rfl, ht, hs, hc⟩, q⟩ := h
  obtain ⟨t, x1, x2, x3, x4, rfl, h0, h1, h2, h3, h4⟩ := hv.tup4
  have e1 := h1.blE
  subst e1
  have jt := join8 (sep := (", " : Str)) (f := toldT) (B := 1000) ht (by decide) fun d h => told_len h
  have js := join8 (sep := (", " : Str)) (f := srcT) (B := 100) hs (by decide) fun d h => src_len h
  have jc := join8 (sep := (" and " : Str)) (f := condT) (B := 300) hc (by decide) fun d h => cond_len h
  have sb := sel_len b
  have ef : (" from " : Str).length = 6 := by decide
  have ew : (" where " : Str).length = 7 := by decide
  refine l_cons (s_asg (pg_tup rfl (pgs_cons (pg_name (i := 1) scWrite.nd rfl (.inl rfl)) (pgs_cons (pg_name (i := 2) scWrite.nd rfl (.inl rfl)) (pgs_cons (pg_name (i := 3) scWrite.nd rfl (.inl rfl)) (pgs_cons (pg_name (i := 4) scWrite.nd rfl (.inl rfl)) pgs_nil))))) (e_var 0 rfl ⟨t, _, rfl, .inl (.inl h0), rfl, _, _, rfl, _, _, rfl, _, _, rfl, _, _, rfl, rfl, ?_⟩))
  refine l_cons (s_set 5 (e_if (t_tru (e_var 1 rfl ⟨b, rfl, fun e => e_str ?_, fun e => e_str ?_⟩))) scWrite.nd)
  all_goals
    refine l_cons (s_augS 5 ⟨selT b, by subst e; rfl, ?_⟩ scWrite.nd)
    refine e_joinT 6 toldT okTold 1000 scWrite.nd (blkOk_by (N := ["statement", "distinct", "told", "sources", "conditions", "text", "item", "source", "condition"]) (sc := defScope sWrite) (by decide +kernel)) (e_str ⟨_, rfl, by decide, e_var 2 rfl ⟨ts, h2, by have := ht.1; omega, fun d h => ⟨ht.2 d h, told_len (ht.2 d h)⟩, by omega, ?_, fun H1 s1 => ?_⟩⟩) (fun _ _ _ _ _ => pg_name (i := 6) scWrite.nd rfl (Or.inl rfl))
    · intro d u' H2 okd hud s0 H0 C cl fp
      exact e_c cT hr (Nat.le_refl _) (a_cons (e_var 6 rfl (a_nil ⟨u', d, rfl, hud, okd, fun H3 s3 => ⟨rfl, s3⟩⟩)))
    refine ⟨_, rfl, line_ge (by omega), ?_⟩
    refine l_cons (s_augS 5 ⟨_, rfl, e_addS (e_str ?_)⟩ scWrite.nd)
    refine e_joinT 7 srcT okSrc 100 scWrite.nd (blkOk_by (N := ["statement", "distinct", "told", "sources", "conditions", "text", "item", "source", "condition"]) (sc := defScope sWrite) (by decide +kernel)) (e_str ⟨_, rfl, by decide, e_var 3 rfl ⟨ss, h3.mono (My.Same.tups s1), by have := hs.1; omega, fun d h => ⟨hs.2 d h, src_len (hs.2 d h)⟩, by omega, ?_, fun H2 s2 => ?_⟩⟩) (fun _ _ _ _ _ => pg_name (i := 7) scWrite.nd rfl (Or.inl rfl))
    · intro d u' H2 okd hud s0 H0 C cl fp
      exact e_c cS hr (by decide) (a_cons (e_var 7 rfl (a_nil ⟨u', d, rfl, hud, okd, fun H3 s3 => ⟨rfl, s3⟩⟩)))
    refine ⟨_, _, rfl, rfl, line_ge (by omega), _, rfl, line_ge (by rw [cat_len, cat_len]; omega), ?_⟩
    have s02 := s1.trans s2
    obtain ⟨tc, xc, rfl, hc0, hcs⟩ := (h4.mono (My.Same.tups s02)).tupE
    have lc := hcs.length
    refine l_cons (s_if (t_tru (e_var 4 rfl ⟨!xc.isEmpty, .inr (.inl ⟨xc, .inl (.inl hc0), rfl⟩), fun e2 => ?_, fun e2 => l_nil ?_⟩)))
    · have ne : cs.isEmpty = false := by
        cases cs with
        | nil => cases xc with
          | nil => cases e2
          | cons _ _ => cases lc
        | cons _ _ => rfl
      refine l_one (s_augS 5 ⟨_, rfl, e_addS (e_str ?_)⟩ scWrite.nd)
      refine e_joinT 8 condT okCond 300 scWrite.nd (blkOk_by (N := ["statement", "distinct", "told", "sources", "conditions", "text", "item", "source", "condition"]) (sc := defScope sWrite) (by decide +kernel)) (e_str ⟨_, rfl, by decide, e_var 4 rfl ⟨cs, h4.mono (My.Same.tups s02), by have := hc.1; omega, fun d h => ⟨hc.2 d h, cond_len (hc.2 d h)⟩, by omega, ?_, fun H3 s3 => ?_⟩⟩) (fun _ _ _ _ _ => pg_name (i := 8) scWrite.nd rfl (Or.inl rfl))
      · intro d u' H2 okd hud s0 H0 C cl fp
        exact e_c cC hr (Nat.le_refl _) (a_cons (e_var 8 rfl (a_nil ⟨u', d, rfl, hud, okd, fun H3 s3 => ⟨rfl, s3⟩⟩)))
      refine ⟨_, _, rfl, rfl, line_ge (by omega), _, rfl, line_ge (by rw [cat_len, cat_len, cat_len, cat_len]; omega), ?_⟩
      have q' := q H3 (s02.trans s3)
      have er : whereT cs = (" where " : Str) ++ Txt.join (" and " : Str) (cs.map condT) := by unfold whereT; rw [if_neg (by rw [ne]; exact Bool.false_ne_true)]
      have ew2 : writeT (.tuple [.bool b, .tuple ts, .tuple ss, .tuple cs]) = selT b ++ Txt.join (", " : Str) (ts.map toldT) ++ ((" from " : Str) ++ Txt.join (", " : Str) (ss.map srcT)) ++ whereT cs := rfl
      rw [ew2, er] at q'
      exact l_one (s_ret (e_var 5 rfl q'))
    · have ne : cs.isEmpty = true := by
        cases cs with
        | nil => rfl
        | cons _ _ => cases xc with
          | nil => cases lc
          | cons _ _ => cases e2
      have q' := q H2 s02
      have er : whereT cs = Str.empty := if_pos ne
      have ew2 : writeT (.tuple [.bool b, .tuple ts, .tuple ss, .tuple cs]) = selT b ++ Txt.join (", " : Str) (ts.map toldT) ++ ((" from " : Str) ++ Txt.join (", " : Str) (ss.map srcT)) ++ whereT cs := rfl
      rw [ew2, er, empty_cat] at q'
      exact l_one (s_ret (e_var 5 rfl q'))
end
end K13W

namespace My
open PySem PySem.Spec PyProof.Rows L2
/-! ### statements are made of tuples; their texts have no line feed -/
theorem okD_val {z : Str} (h : valS z = true) : okD (.str z) = true := List.all_eq_true.mpr fun c hc => decide_eq_true (lowC_3 c (List.all_eq_true.mp (val_cs h).1 c hc))
theorem okD_nam {d : PyData} (h : namD d = true) : okD d = true := by obtain ⟨z, rfl, hz, _⟩ := namE h; exact okD_val hz
theorem okD_nn {d : PyData} (h : nnD d = true) : okD d = true := by
  rcases nnE h with rfl | h
  · rfl
  · exact okD_nam h
theorem okDs_of' : ∀ {ds : List PyData}, (∀ d ∈ ds, okD d = true) → okDs ds = true
  | [], _ => rfl
  | d :: ds, h => by
    show (okD d && okDs ds) = true
    rw [h d (List.mem_cons_self ..), okDs_of' fun x hx => h x (List.mem_cons_of_mem _ hx)]; rfl
theorem okD2 {a b : PyData} (ha : okD a = true) (hb : okD b = true) : okD (.tuple [a, b]) = true := by show (okD a && (okD b && true)) = true; rw [ha, hb]; rfl
theorem okD3 {a b c : PyData} (ha : okD a = true) (hb : okD b = true) (hc : okD c = true) : okD (.tuple [a, b, c]) = true := by show (okD a && (okD b && (okD c && true))) = true; rw [ha, hb, hc]; rfl
theorem okD4 {a b c e : PyData} (ha : okD a = true) (hb : okD b = true) (hc : okD c = true) (he : okD e = true) : okD (.tuple [a, b, c, e]) = true := by show (okD a && (okD b && (okD c && (okD e && true)))) = true; rw [ha, hb, hc, he]; rfl
theorem okD_col {d : PyData} (h : colD d = true) : okD d = true := by obtain ⟨a, b, rfl, ha, hb⟩ := colE h; exact okD2 (okD_nn ha) (okD_nam hb)
theorem okD_term : ∀ (k : Nat) {d : PyData}, (colD d || valD d || callD k d) = true → okD d = true
  | k, d, h => by
    rw [Bool.or_eq_true, Bool.or_eq_true] at h
    rcases h with (h | h) | h
    · exact okD_col h
    · obtain ⟨z, rfl, hz⟩ := valE h; exact okD_val hz
    · obtain ⟨j, s, n, ts, rfl, rfl, hs, hn, _, _, hts⟩ := callE h
      exact okD4 (by decide +kernel) (okD_nn hs) (okD_nam hn) (okDs_of' fun t ht => okD_term j (hts t ht))
theorem okD_told {d : PyData} (h : toldD d = true) : okD d = true := by
  rcases toldE h with ⟨n, rfl, hn⟩ | ⟨c, n, rfl, hc, hn⟩ | ⟨t, n, rfl, ht, hn⟩
  · exact okD2 (by decide +kernel) (okD_nam hn)
  · exact okD3 (by decide +kernel) (okD_col hc) (okD_nam hn)
  · exact okD3 (by decide +kernel) (okD_term 3 (by rcases ht with h | h <;> simp [h])) (okD_nam hn)
theorem okD_src {d : PyData} (h : srcD d = true) : okD d = true := by obtain ⟨s, n, l, rfl, hs, hn, hl⟩ := srcE h; exact okD3 (okD_nn hs) (okD_nam hn) (okD_nam hl)
theorem okD_cond {d : PyData} (h : condD d = true) : okD d = true := by
  rcases condE h with ⟨a, b, rfl, ha, hb⟩ | ⟨a, ds, rfl, ha, _, _, hds⟩
  · exact okD3 (by decide +kernel) (okD_col ha) (okD_col hb)
  · exact okD3 (by decide +kernel) (okD_col ha) (okDs_of' fun x hx => by obtain ⟨z, rfl, hz⟩ := valE (hds x hx); exact okD_val hz)
theorem okD_st {d : PyData} (h : stD d = true) : okD d = true := by
  obtain ⟨b, ts, ss, cc, rfl, ⟨_, _, ht⟩, ⟨_, _, hs⟩, _, hc⟩ := stE h
  exact okD4 rfl (okDs_of' fun x hx => okD_told (ht x hx)) (okDs_of' fun x hx => okD_src (hs x hx)) (okDs_of' fun x hx => okD_cond (hc x hx))
mutual
theorem DG.dt {S : Addr → Prop} {H : Hp} : ∀ {v : V} {d : PyData}, DG S H v d → okD d = true → DT H v d
  | _, _, .non, _ => .non
  | _, _, .bl b, _ => .bl b
  | _, _, .int i, _ => .int i
  | _, _, .str x, _ => .str x
  | _, _, .tup h hs, k => .tup h (DGs.dt hs k)
  | _, _, .lst h n hs, k => by cases k
  | _, _, .dct h n hs, k => by cases k
theorem DGs.dt {S : Addr → Prop} {H : Hp} : ∀ {vs : List V} {ds : List PyData}, DGs S H vs ds → okDs ds = true → DTs H vs ds
  | _, _, .nil, _ => .nil
  | _, _, .cons h hs, k => by
    have k' : (okD _ && okDs _) = true := k
    rw [Bool.and_eq_true] at k'
    exact .cons (DG.dt h k'.1) (DGs.dt hs k'.2)
end
/-- no line feed -/
def NoL (l : Cs) : Prop := ∀ c ∈ l, c ≠ 10
theorem NoL.app {a b : Cs} (h : NoL a) (k : NoL b) : NoL (a ++ b) := fun c hc => (List.mem_append.mp hc).elim (h c) (k c)
theorem nol_cat {a b : Str} (h : NoL (cs a)) (k : NoL (cs b)) : NoL (cs (a ++ b)) := by rw [cs_cat]; exact h.app k
theorem nol_dec {s : Str} (h : (cs s).all (fun c => decide (c ≠ 10)) = true) : NoL (cs s) := fun c hc => of_decide_eq_true (List.all_eq_true.mp h c hc)
theorem nol_val {z : Str} (h : valS z = true) : NoL (cs z) := fun c hc e => by
  have := List.all_eq_true.mp (val_cs h).1 c hc
  rw [e] at this
  exact absurd this (by decide +kernel)
theorem nol_sv {d : PyData} (h : namD d = true) : NoL (cs (sv d)) := by obtain ⟨z, rfl, hz, _⟩ := namE h; exact nol_val hz
theorem nol_dot {a b : PyData} (ha : nnD a = true) (hb : namD b = true) : NoL (cs (dotT a b)) := by
  rcases nnE ha with rfl | ha
  · exact nol_sv hb
  · obtain ⟨y, rfl, hy, _⟩ := namE ha
    exact nol_cat (nol_cat (nol_val hy) (nol_dec (by decide +kernel))) (nol_sv hb)
theorem nol_join {s : Str} (hs : NoL (cs s)) : ∀ {l : List Str}, (∀ x ∈ l, NoL (cs x)) → NoL (cs (Txt.join s l))
  | [], _ => fun c hc => by cases hc
  | a :: l, h => by
    rw [cs_join]
    refine (h a (List.mem_cons_self ..)).app fun c hc => ?_
    obtain ⟨m, hm, hc⟩ := List.mem_flatten.mp hc
    obtain ⟨x, hx, rfl⟩ := List.mem_map.mp hm
    exact (hs.app (h x (List.mem_cons_of_mem _ hx))) c hc
theorem nol_map {s : Str} {f : PyData → Str} {ds : List PyData} (hs : NoL (cs s)) (h : ∀ d ∈ ds, NoL (cs (f d))) : NoL (cs (Txt.join s (ds.map f))) := nol_join hs fun x hx => by
  obtain ⟨d, hd, rfl⟩ := List.mem_map.mp hx
  exact h d hd
theorem nol_quo {z : Str} (h : valS z = true) : NoL (cs (quoT z)) := nol_cat (nol_cat (nol_dec (by decide +kernel)) (nol_val h)) (nol_dec (by decide +kernel))
theorem nol_term : ∀ (k : Nat) {d : PyData}, (colD d || valD d || callD k d) = true → NoL (cs (termT k d))
  | k, d, h => by
    rw [Bool.or_eq_true, Bool.or_eq_true] at h
    rcases h with (h | h) | h
    · obtain ⟨a, b, rfl, ha, hb⟩ := colE h
      have e : termT k (.tuple [a, b]) = dotT a b := by cases k <;> rfl
      rw [e]; exact nol_dot ha hb
    · obtain ⟨z, rfl, hz⟩ := valE h
      have e : termT k (.str z) = quoT z := by cases k <;> rfl
      rw [e]; exact nol_quo hz
    · obtain ⟨j, s, n, ts, rfl, rfl, hs, hn, _, _, hts⟩ := callE h
      exact nol_cat (nol_cat (nol_cat (nol_dot hs hn) (nol_dec (by decide +kernel))) (nol_map (nol_dec (by decide +kernel)) fun t ht => nol_term j (hts t ht))) (nol_dec (by decide +kernel))
theorem nol_told {d : PyData} (h : toldD d = true) : NoL (cs (toldT d)) := by
  rcases toldE h with ⟨n, rfl, hn⟩ | ⟨c, n, rfl, hc, hn⟩ | ⟨t, n, rfl, ht, hn⟩
  · exact nol_cat (nol_sv hn) (nol_dec (by decide +kernel))
  · obtain ⟨a, b, rfl, ha, hb⟩ := colE hc
    show NoL (cs (if sv b = sv n then dotT a b else dotT a b ++ (" as " : Str) ++ sv n))
    split
    · exact nol_dot ha hb
    · exact nol_cat (nol_cat (nol_dot ha hb) (nol_dec (by decide +kernel))) (nol_sv hn)
  · have e0 : toldT (.tuple [.str "term", t, n]) = termT 3 t ++ (" as " : Str) ++ sv n := by
      rcases ht with h | h
      · obtain ⟨z, rfl, _⟩ := valE h; rfl
      · obtain ⟨j, s, m, ts, e, rfl, _⟩ := callE h; rfl
    rw [e0]
    exact nol_cat (nol_cat (nol_term 3 (by rcases ht with h | h <;> simp [h])) (nol_dec (by decide +kernel))) (nol_sv hn)
theorem nol_src {d : PyData} (h : srcD d = true) : NoL (cs (srcT d)) := by
  obtain ⟨s, n, l, rfl, hs, hn, hl⟩ := srcE h
  show NoL (cs (if sv l = sv n then dotT s n else dotT s n ++ (" " : Str) ++ sv l))
  split
  · exact nol_dot hs hn
  · exact nol_cat (nol_cat (nol_dot hs hn) (nol_dec (by decide +kernel))) (nol_sv hl)
theorem nol_cond {d : PyData} (h : condD d = true) : NoL (cs (condT d)) := by
  rcases condE h with ⟨a, b, rfl, ha, hb⟩ | ⟨a, ds, rfl, ha, _, _, hds⟩
  · obtain ⟨a1, a2, rfl, h1, h2⟩ := colE ha
    obtain ⟨b1, b2, rfl, h3, h4⟩ := colE hb
    exact nol_cat (nol_cat (nol_dot h1 h2) (nol_dec (by decide +kernel))) (nol_dot h3 h4)
  · obtain ⟨a1, a2, rfl, h1, h2⟩ := colE ha
    have e : condT (.tuple [.str "in", .tuple [a1, a2], .tuple ds]) = dotT a1 a2 ++ (" in " : Str) ++ valsT ds := by
      show (if ("in" : Str) = "equal" then cellT (.tuple [a1, a2]) ++ (" = " : Str) ++ cellT (.tuple ds) else cellT (.tuple [a1, a2]) ++ (" in " : Str) ++ valsT ds) = _
      rw [if_neg (by decide +kernel)]
      rfl
    rw [e]
    refine nol_cat (nol_cat (nol_dot h1 h2) (nol_dec (by decide +kernel))) (nol_cat (nol_cat (nol_dec (by decide +kernel)) (nol_map (nol_dec (by decide +kernel)) fun x hx => ?_)) (nol_dec (by decide +kernel)))
    obtain ⟨z, rfl, hz⟩ := valE (hds x hx)
    exact nol_quo hz
theorem nol_write {d : PyData} (h : stD d = true) : NoL (cs (writeT d)) := by
  obtain ⟨b, ts, ss, cc, rfl, ⟨_, _, ht⟩, ⟨_, _, hs⟩, _, hc⟩ := stE h
  refine nol_cat (nol_cat (nol_cat ?_ (nol_map (nol_dec (by decide +kernel)) fun x hx => nol_told (ht x hx))) (nol_cat (nol_dec (by decide +kernel)) (nol_map (nol_dec (by decide +kernel)) fun x hx => nol_src (hs x hx)))) ?_
  · cases b <;> exact nol_dec (by decide +kernel)
  · by_cases hn : cc = []
    · subst hn; exact fun c hc => by cases hc
    · rw [where_cs cc hn]
      exact NoL.app (nol_dec (by decide +kernel)) (nol_map (nol_dec (by decide +kernel)) fun x hx => nol_cond (hc x hx))
end My

namespace K13W
open PySem PySem.Spec PyProof.Rows L2 My
theorem nmV {z : Str} (h : valS z = true) : nm z := by
  obtain ⟨h1, h2, _⟩ := val_cs h
  have e : (cs z).length = z.length := rfl
  exact ⟨by omega, List.all_eq_true.mpr fun c hc => decide_eq_true (lowC_3 c (List.all_eq_true.mp h1 c hc))⟩
theorem okN_nam {d : PyData} (h : namD d = true) : okN d := by obtain ⟨z, rfl, hz, _⟩ := namE h; exact ⟨z, rfl, nmV hz⟩
theorem okN_val {d : PyData} (h : valD d = true) : okN d := by obtain ⟨z, rfl, hz⟩ := valE h; exact ⟨z, rfl, nmV hz⟩
theorem okO_nn {d : PyData} (h : nnD d = true) : okO d := by
  rcases nnE h with rfl | h
  · exact .inl rfl
  · exact .inr (okN_nam h)
theorem okC_col {d : PyData} (h : colD d = true) : okC d := by obtain ⟨a, b, rfl, ha, hb⟩ := colE h; exact ⟨a, b, rfl, okO_nn ha, okN_nam hb⟩
theorem okTm_term : ∀ (k : Nat) {d : PyData}, (colD d || valD d || callD k d) = true → okTm k d
  | k, d, h => by
    rw [Bool.or_eq_true, Bool.or_eq_true] at h
    rcases h with (h | h) | h
    · cases k with
      | zero => exact .inr (okC_col h)
      | succ k => exact .inr (.inl (okC_col h))
    · cases k with
      | zero => exact .inl (okN_val h)
      | succ k => exact .inl (okN_val h)
    · obtain ⟨j, s, n, ts, rfl, rfl, hs, hn, l1, l2, hts⟩ := callE h
      exact .inr (.inr ⟨s, n, ts, rfl, okO_nn hs, okN_nam hn, l1, l2, fun t ht => okTm_term j (hts t ht)⟩)
theorem okTold_of {d : PyData} (h : toldD d = true) : okTold d := by
  rcases toldE h with ⟨n, rfl, hn⟩ | ⟨c, n, rfl, hc, hn⟩ | ⟨t, n, rfl, ht, hn⟩
  · exact .inl ⟨n, rfl, okN_nam hn⟩
  · obtain ⟨a, b, rfl, ha, hb⟩ := colE hc
    exact .inr (.inl ⟨a, b, n, rfl, okO_nn ha, okN_nam hb, okN_nam hn⟩)
  · refine .inr (.inr ⟨t, n, rfl, ?_, okN_nam hn⟩)
    rcases ht with h | h
    · exact .inl (okN_val h)
    · obtain ⟨j, s, m, ts, e, rfl, hs, hm, l1, l2, hts⟩ := callE h
      have ej : j = 2 := by omega
      subst ej
      exact .inr ⟨s, m, ts, rfl, okO_nn hs, okN_nam hm, l1, l2, fun t ht => okTm_term 2 (hts t ht)⟩
theorem okSrc_of {d : PyData} (h : srcD d = true) : okSrc d := by obtain ⟨s, n, l, rfl, hs, hn, hl⟩ := srcE h; exact ⟨s, n, l, rfl, okO_nn hs, okN_nam hn, okN_nam hl⟩
theorem okCond_of {d : PyData} (h : condD d = true) : okCond d := by
  rcases condE h with ⟨a, b, rfl, ha, hb⟩ | ⟨a, ds, rfl, ha, _, l2, hds⟩
  · exact .inl ⟨a, b, rfl, okC_col ha, okC_col hb⟩
  · exact .inr ⟨a, ds, rfl, okC_col ha, l2, fun x hx => okN_val (hds x hx)⟩
theorem okSt_of {d : PyData} (h : stD d = true) : okSt d := by
  obtain ⟨b, ts, ss, cc, rfl, ⟨_, l2, ht⟩, ⟨_, m2, hs⟩, n2, hc⟩ := stE h
  exact ⟨b, ts, ss, cc, rfl, ⟨l2, fun x hx => okTold_of (ht x hx)⟩, ⟨by omega, fun x hx => okSrc_of (hs x hx)⟩, ⟨n2, fun x hx => okCond_of (hc x hx)⟩⟩
theorem wr_len {d : PyData} (h : okSt d) : (writeT d).length ≤ 20000 := by
  obtain ⟨b, ts, ss, cs, rfl, ht, hs, hc⟩ := h
  have l1 := join8 (sep := ", ") (f := toldT) (B := 1000) ht (by decide) fun d h => told_len h
  have l2 := join8 (sep := ", ") (f := srcT) (B := 100) hs (by decide) fun d h => src_len h
  have l3 := join8 (sep := " and ") (f := condT) (B := 300) hc (by decide) fun d h => cond_len h
  have l4 := sel_len b
  have l5 : (whereT cs).length ≤ 2600 := by
    by_cases e : cs = []
    · subst e; exact Nat.zero_le _
    · have : whereT cs = (" where " : Str) ++ Txt.join (" and " : Str) (cs.map condT) := by cases cs with | nil => exact absurd rfl e | cons _ _ => rfl
      rw [this, cat_len]
      have : (" where " : Str).length = 7 := by decide
      omega
  show (selT b ++ Txt.join (", " : Str) (ts.map toldT) ++ ((" from " : Str) ++ Txt.join (", " : Str) (ss.map srcT)) ++ whereT cs).length ≤ 20000
  rw [cat_len, cat_len, cat_len, cat_len]
  have : (" from " : Str).length = 6 := by decide
  omega
end K13W

namespace K13
open PySem PySem.Spec PyProof.Rows L2 My
abbrev sFound : Stmt := top 52
abbrev nFound : List Str := ["_law_thing_here", "_law_caught", "_law_found_here", "e"]
/-- the facts of the two classes of errors -/
structure Be (K : PySem.W.Frag) (mg : Str → Option Value) (CB CI : Addr) : Prop where
  gB : mg "BoundError" = some (.ref CB)
  gI : mg "InvalidText" = some (.ref CI)
  gV : mg "ValueError" = none
  isi : mg "isinstance" = none
  xI : ExcC K CI
  me : PySem.W.exmOne K (.ref CI) (.ref CB) = some true
  kv : PySem.W.kitOne K (.ref CI) (.type "ValueError") = some true
theorem Be.ki {K : PySem.W.Frag} {mg : Str → Option Value} {CB CI : Addr} (G : Be K mg CB CI) : PySem.W.kitOne K (.ref CI) (.ref CI) = some true := if_pos (beq_self_eq_true _)
/-- what the law finds of a thing -/
def spFound : Sp := fun vs H Q _ => ∃ (v : V) (d : PyData) (S : Addr → Prop), vs = [v] ∧ DG S H v d ∧ (∀ z, d = .str z → z.length ≤ 1000000) ∧ (∀ z e, d = .str z → pRead z = some e → ∀ u H', Same H H' → DT H' u e → Q u H') ∧ ((∀ z, d = .str z → pRead z = none) → ∀ H', Same H H' → Q (.str "none") H')
section
variable {P : Program} {w : World} {K : PySem.W.Frag} {mg : Str → Option Value} {base : Heap} {CB CI : Addr}
theorem scFound : FnScope nFound ["_law_thing_here"] (defScope sFound) := ⟨rfl, rfl, rfl, by decide +kernel, rfl, by decide +kernel, by decide +kernel⟩
theorem ok_found {f : Addr} {fd : FuncData} (F : Fun K "_law_found" "_law_found" sFound f fd) (G : Be K mg CB CI) (cR : CalX P w K mg base 13 "read" (K13R.spRead CI)) : FnOk P w K mg base CX0 14 f fd ["_law_thing_here"] spFound := by
  refine Fun.okW F scFound (fun vs H Q E h => by obtain ⟨v, d, S, rfl, _⟩ := h; rfl) (fun cdv B out s H vs Q E hr h => ?_)
  obtain ⟨v, d, S, rfl, hd, hz, q1, q2⟩ := h
  refine l_cons (s_asg (pg_tup rfl (pgs_cons (pg_name (i := 1) scFound.nd rfl (.inl rfl)) (pgs_cons (pg_name (i := 2) scFound.nd rfl (.inl rfl)) pgs_nil))) (e_tup (a_cons (e_non (a_cons (e_non (a_nil ⟨by show 2 ≤ sizeLine; decide, fun t ht => ⟨t, _, rfl, .inl (.inl upd_same), rfl, _, _, rfl, _, _, rfl, rfl, ?_⟩⟩)))))))
  have s0 := same_new (o := .tup [V.non, V.non]) ht
  replace hd := hd.same s0
  refine l_cons (s_try_hold (i := 3) (j := 1) rfl rfl rfl scFound.nd rfl rfl (by decide) rfl rfl ⟨rfl, by decide, .inl G.gB⟩ (fun pn xe tx po => ?_))
  refine l_one (s_set 2 (e_x cR tx hr (Nat.le_refl _) (a_cons (e_var 0 rfl (a_nil ⟨v, d, S, rfl, hd, hz, fun z e ez er u H1 s1 g1 => ?_, fun hn H1 s1 => ⟨G.me, rfl, fun a ha => ?_⟩⟩)))) scFound.nd)
  · -- a statement
    refine l_cons (s_if (t_isN (e_var 1 rfl ?_)))
    exact ⟨fun _ => l_one (s_ret (e_var 2 rfl (q1 z e ez er u H1 (s0.trans s1) g1))), fun h => absurd (of_decide_eq_false h) (fun z => z rfl)⟩
  · -- none
    have s2 : Same H (upd H1 a (ExO a (.ref CI))) := (s0.trans s1).trans (same_new ha)
    refine l_cons (s_if (t_isN (e_var 1 rfl ?_)))
    refine ⟨fun h => absurd (of_decide_eq_true h) (fun z => by cases z), fun _ => l_nil ?_⟩
    refine l_one (s_ret (e_if (t_w (w_and (t_val (e_isO G.isi G.xI G.gI G.ki (e_var 1 rfl ⟨a, rfl, upd_same, true, rfl, fun _ => ?_, fun h => by cases h⟩)))))))
    refine w_and1 (t_val (e_isOB G.isi G.xI G.gV (ExcClass.boot excClass_ValueError) (by decide) G.kv (e_var 1 rfl ⟨a, rfl, upd_same, true, rfl, fun _ => ?_, fun h => by cases h⟩)))
    exact e_str (q2 hn _ s2)
end
end K13

namespace K13
open PySem PySem.Spec PyProof.Rows L2 My
abbrev sWrong : Stmt := top 53
abbrev nWrong : List Str := ["_law_some"]
/-- a text that is none -/
structure WOk (z : Str) : Prop where
  no : pRead z = none
  len : z.length ≤ 20000
  sm : Sm z
theorem no_of {z : Str} (h : (pRead z).isNone = true) : pRead z = none := by
  cases q : pRead z with
  | none => rfl
  | some d => rw [q] at h; cases h
theorem wok_of {zs : List Str} (h : zs.all (fun z => (pRead z).isNone && decide (z.length ≤ 20000) && z.cps.toList.all fun c => decide (c < 128)) = true) : ∀ z ∈ zs, WOk z := fun z hz => by
  have e := List.all_eq_true.mp h z hz
  rw [Bool.and_eq_true, Bool.and_eq_true] at e
  exact ⟨no_of e.1.1, of_decide_eq_true e.1.2, sm_of e.2⟩
def OkZ (d : PyData) : Prop := ∃ z, d = .str z ∧ WOk z
theorem okz_of {zs : List Str} (h : ∀ z ∈ zs, WOk z) : ∀ d ∈ zs.map PyData.str, OkZ d := fun d hd => by
  obtain ⟨z, hz, rfl⟩ := List.mem_map.mp hd
  exact ⟨z, rfl, h z hz⟩
theorem okz_app {xs ys : List PyData} (h : ∀ z ∈ xs, OkZ z) (k : ∀ z ∈ ys, OkZ z) : ∀ z ∈ xs ++ ys, OkZ z := fun z hz => (List.mem_append.mp hz).elim (h z) (k z)
def wz0 : List Str := ["", "select", "select a", "select a from", "select a from t where", "select a from t where a = b and"]
def wz1 : List Str := ["select a from t t", "select a as a from t", "Select a from t"]
def wz2 : List Str := ["select a from t ", "select a\nfrom t"]
def wz3 : List Str := ["select * from t", "select 'a' from t", "select f() as a from t"]
def wz4 : List Str := ["select f(a) from t", "from t select a"]
def wz5 : List Str := [" select a from t", "select f(a, b, c) as d from t", "select distinct from t", "select a, from t"]
def wz6 : List Str := ["select a from t where a in ('a', 'a')", "select a.b.c from t"]
def wz7 : List Str := ["select a from s.t.u", "select ,a from t"]
def wz8 : List Str := ["select f(f(f(f(a)))) as b from t", (repT "select f(" 2000)]
def wz9 : List Str := [(catT (catT "select " (repT "f(" 3000)) "a"), "select a from t,u"]
def wz10 : List Str := ["select in from t", "select a from t where a = 'b'"]
def wz11 : List Str := ["select a from t where a in ()", "select a from t p, u p"]
def wz12 : List Str := ["select a from t where a in ('b', 'a')", "select a from t where a in ('a','b')"]
def wz13 : List Str := ["select a from t where a"]
def wz14 : List Str := ["select a from t as p", "select a as b as c from t"]
def wz15 : List Str := [(catT (catT "select " (repT "a" 9)) " from t"), "select a1 from t"]
def wz16 : List Str := ["select a from t where a in ('A')", "select 'as' as as from t"]
def wz17 : List Str := ["select t.* as a from t", "select a from p, q, r, s, t"]
def wy1 : Str := catT "select a from t where " (Txt.join " and " (List.replicate 9 "a = b"))
def wy2 : Str := "select a, b, c, d, e, f, g, h, i from t"
def wy3 : Str := catT (catT "select a from t where a in ('" (Txt.join "', '" (chars "abcdefghi"))) "')"
def wx : List PyData := [.none, .int 0, .bool true, .list [], .tuple [], .dict [], .list [.str "select a from t"], .tuple [.str "select a from t"]]
theorem wL1 : WOk (repT "select f(" 2000) := ⟨no_of (by decide +kernel), by rw [repT_len]; decide, repT_sm (sm_of (by decide +kernel))⟩
theorem wL2 : WOk (catT (catT "select " (repT "f(" 3000)) "a") := ⟨no_of (by decide +kernel), by rw [catT_len, catT_len, repT_len]; decide, catT_sm (catT_sm (sm_of (by decide +kernel)) (repT_sm (sm_of (by decide +kernel)))) (sm_of (by decide +kernel))⟩
theorem wY1 : WOk wy1 := wok_of (zs := [wy1]) (by decide +kernel) _ (.head _)
theorem wY2 : WOk wy2 := wok_of (zs := [wy2]) (by decide +kernel) _ (.head _)
theorem wY3 : WOk wy3 := wok_of (zs := [wy3]) (by decide +kernel) _ (.head _)
theorem wo0 : ∀ z ∈ wz0, WOk z := wok_of (by decide +kernel)
theorem wo1 : ∀ z ∈ wz1, WOk z := wok_of (by decide +kernel)
theorem wo2 : ∀ z ∈ wz2, WOk z := wok_of (by decide +kernel)
theorem wo3 : ∀ z ∈ wz3, WOk z := wok_of (by decide +kernel)
theorem wo4 : ∀ z ∈ wz4, WOk z := wok_of (by decide +kernel)
theorem wo5 : ∀ z ∈ wz5, WOk z := wok_of (by decide +kernel)
theorem wo6 : ∀ z ∈ wz6, WOk z := wok_of (by decide +kernel)
theorem wo7 : ∀ z ∈ wz7, WOk z := wok_of (by decide +kernel)
theorem wo8 : ∀ z ∈ wz8, WOk z := fun z hz => by
  simp only [wz8, List.mem_cons, List.not_mem_nil, or_false] at hz
  rcases hz with rfl | rfl
  · exact wok_of (zs := ["select f(f(f(f(a)))) as b from t"]) (by decide +kernel) _ (.head _)
  · exact wL1
theorem wo9 : ∀ z ∈ wz9, WOk z := fun z hz => by
  simp only [wz9, List.mem_cons, List.not_mem_nil, or_false] at hz
  rcases hz with rfl | rfl
  · exact wL2
  · exact wok_of (zs := ["select a from t,u"]) (by decide +kernel) _ (.head _)
theorem wo10 : ∀ z ∈ wz10, WOk z := wok_of (by decide +kernel)
theorem wo11 : ∀ z ∈ wz11, WOk z := wok_of (by decide +kernel)
theorem wo12 : ∀ z ∈ wz12, WOk z := wok_of (by decide +kernel)
theorem wo13 : ∀ z ∈ wz13, WOk z := wok_of (by decide +kernel)
theorem wo14 : ∀ z ∈ wz14, WOk z := wok_of (by decide +kernel)
theorem wo15 : ∀ z ∈ wz15, WOk z := wok_of (by decide +kernel)
theorem wo16 : ∀ z ∈ wz16, WOk z := wok_of (by decide +kernel)
theorem wo17 : ∀ z ∈ wz17, WOk z := wok_of (by decide +kernel)
/-- what the law writes by hand that is none -/
def OkW (d : PyData) : Prop := OkZ d ∨ d ∈ wx
theorem okz_any {S T : Addr → Prop} {H H' : Hp} : ∀ {xs : List V} {ds : List PyData}, DGs S H xs ds → (∀ d ∈ ds, OkZ d) → DGs T H' xs ds
  | _, _, .nil, _ => .nil
  | _, _, .cons a b, h => by
    obtain ⟨z, rfl, _⟩ := h _ (.head _)
    cases a
    exact .cons (.str z) (okz_any b fun d hd => h d (.tail _ hd))
def spWrong : Sp := fun vs H Q _ => vs = [] ∧ ∀ q ys ds H', Same H H' → H' q = some (.lst ys) → DGs (fun _ => False) H' ys ds → ds.length ≤ 60 → (∀ d ∈ ds, OkW d) → Q (.ref q) H'
section
variable {P : Program} {w : World} {K : PySem.W.Frag} {mg : Str → Option Value} {base : Heap}
theorem scWrong : FnScope nWrong [] (defScope sWrong) := ⟨rfl, rfl, rfl, by decide +kernel, rfl, by decide +kernel, by decide +kernel⟩
theorem ok_wrong {f : Addr} {fd : FuncData} (F : Fun K "_law_wrong" "_law_wrong" sWrong f fd) (hL : mg "list" = none) : FnOk P w K mg base CX0 1 f fd [] spWrong := by
  refine Fun.okW F scWrong (fun vs H Q E h => by rw [h.1]; rfl) (fun cdv B out s H vs Q E hr h => ?_)
  obtain ⟨rfl, q⟩ := h
  have sl0 : SL (fun a => H a ≠ none) H [none] [none] := ⟨fun a e => e, fun i d h => by
    rcases i with _ | i <;> simp at h, rfl⟩
  refine l_cons ((sd_set 0 (d_lst (ds := wz0.map PyData.str) (ad_cons (d_str _) (ad_cons (d_str _) (ad_cons (d_str _) (ad_cons (d_str _) (ad_cons (d_str _) (ad_cons (d_str _) ad_nil)))))) (by decide)) scWrong.nd) (fun a => H a ≠ none) _ _ _ sl0 fun σ1 H1 s1 sl1 => ?_)
  refine l_cons ((sd_set 0 (d_catL (d_var 0) (d_lst (ds := wz1.map PyData.str) (ad_cons (d_str _) (ad_cons (d_str _) (ad_cons (d_str _) ad_nil))) (by decide)) (by decide)) scWrong.nd) _ _ _ _ sl1 fun σ2 H2 s2 sl2 => ?_)
  refine l_cons ((sd_set 0 (d_catL (d_var 0) (d_lst (ds := wz2.map PyData.str) (ad_cons (d_str _) (ad_cons (d_str _) ad_nil)) (by decide)) (by decide)) scWrong.nd) _ _ _ _ sl2 fun σ3 H3 s3 sl3 => ?_)
  refine l_cons ((sd_set 0 (d_catL (d_var 0) (d_lst (ds := wz3.map PyData.str) (ad_cons (d_str _) (ad_cons (d_str _) (ad_cons (d_str _) ad_nil))) (by decide)) (by decide)) scWrong.nd) _ _ _ _ sl3 fun σ4 H4 s4 sl4 => ?_)
  refine l_cons ((sd_set 0 (d_catL (d_var 0) (d_lst (ds := wz4.map PyData.str) (ad_cons (d_str _) (ad_cons (d_str _) ad_nil)) (by decide)) (by decide)) scWrong.nd) _ _ _ _ sl4 fun σ5 H5 s5 sl5 => ?_)
  refine l_cons ((sd_set 0 (d_catL (d_var 0) (d_lst (ds := wz5.map PyData.str) (ad_cons (d_str _) (ad_cons (d_str _) (ad_cons (d_str _) (ad_cons (d_str _) ad_nil)))) (by decide)) (by decide)) scWrong.nd) _ _ _ _ sl5 fun σ6 H6 s6 sl6 => ?_)
  refine l_cons ((sd_set 0 (d_catL (d_var 0) (d_lst (ds := wz6.map PyData.str) (ad_cons (d_str _) (ad_cons (d_str _) ad_nil)) (by decide)) (by decide)) scWrong.nd) _ _ _ _ sl6 fun σ7 H7 s7 sl7 => ?_)
  refine l_cons ((sd_set 0 (d_catL (d_var 0) (d_lst (ds := wz7.map PyData.str) (ad_cons (d_str _) (ad_cons (d_str _) ad_nil)) (by decide)) (by decide)) scWrong.nd) _ _ _ _ sl7 fun σ8 H8 s8 sl8 => ?_)
  refine l_cons ((sd_set 0 (d_catL (d_var 0) (d_lst (ds := wz8.map PyData.str) (ad_cons (d_str _) (ad_cons (d_mulS2 (k := 2000) (d_str _) (d_int 2000) (by decide) (by decide) (by decide) (by decide)) ad_nil)) (by decide)) (by decide)) scWrong.nd) _ _ _ _ sl8 fun σ9 H9 s9 sl9 => ?_)
  refine l_cons ((sd_set 0 (d_catL (d_var 0) (d_lst (ds := wz9.map PyData.str) (ad_cons (d_addC (d_addC (d_str _) (d_mulS2 (k := 3000) (d_str _) (d_int 3000) (by decide) (by decide) (by decide) (by decide)) (by first | decide | (rw [repT_len]; decide) | (rw [catT_len, repT_len]; decide))) (d_str _) (by first | decide | (rw [repT_len]; decide) | (rw [catT_len, repT_len]; decide))) (ad_cons (d_str _) ad_nil)) (by decide)) (by decide)) scWrong.nd) _ _ _ _ sl9 fun σ10 H10 s10 sl10 => ?_)
  refine l_cons ((sd_set 0 (d_catL (d_var 0) (d_lst (ds := wz10.map PyData.str) (ad_cons (d_str _) (ad_cons (d_str _) ad_nil)) (by decide)) (by decide)) scWrong.nd) _ _ _ _ sl10 fun σ11 H11 s11 sl11 => ?_)
  refine l_cons ((sd_set 0 (d_catL (d_var 0) (d_lst (ds := wz11.map PyData.str) (ad_cons (d_str _) (ad_cons (d_str _) ad_nil)) (by decide)) (by decide)) scWrong.nd) _ _ _ _ sl11 fun σ12 H12 s12 sl12 => ?_)
  refine l_cons ((sd_set 0 (d_catL (d_var 0) (d_lst (ds := wz12.map PyData.str) (ad_cons (d_str _) (ad_cons (d_str _) ad_nil)) (by decide)) (by decide)) scWrong.nd) _ _ _ _ sl12 fun σ13 H13 s13 sl13 => ?_)
  refine l_cons ((sd_set 0 (d_catL (d_var 0) (d_lst (ds := wz13.map PyData.str) (ad_cons (d_str _) ad_nil) (by decide)) (by decide)) scWrong.nd) _ _ _ _ sl13 fun σ14 H14 s14 sl14 => ?_)
  refine l_cons ((sd_set 0 (d_catL (d_var 0) (d_lst (ds := wz14.map PyData.str) (ad_cons (d_str _) (ad_cons (d_str _) ad_nil)) (by decide)) (by decide)) scWrong.nd) _ _ _ _ sl14 fun σ15 H15 s15 sl15 => ?_)
  refine l_cons ((sd_set 0 (d_catL (d_var 0) (d_lst (ds := wz15.map PyData.str) (ad_cons (d_addC (d_addC (d_str _) (d_mulS2 (k := 9) (d_str _) (d_int 9) (by decide) (by decide) (by decide) (by decide)) (by first | decide | (rw [repT_len]; decide) | (rw [catT_len, repT_len]; decide))) (d_str _) (by first | decide | (rw [repT_len]; decide) | (rw [catT_len, repT_len]; decide))) (ad_cons (d_str _) ad_nil)) (by decide)) (by decide)) scWrong.nd) _ _ _ _ sl15 fun σ16 H16 s16 sl16 => ?_)
  refine l_cons ((sd_set 0 (d_catL (d_var 0) (d_lst (ds := wz16.map PyData.str) (ad_cons (d_str _) (ad_cons (d_str _) ad_nil)) (by decide)) (by decide)) scWrong.nd) _ _ _ _ sl16 fun σ17 H17 s17 sl17 => ?_)
  refine l_cons ((sd_set 0 (d_catL (d_var 0) (d_lst (ds := wz17.map PyData.str) (ad_cons (d_str _) (ad_cons (d_str _) ad_nil)) (by decide)) (by decide)) scWrong.nd) _ _ _ _ sl17 fun σ18 H18 s18 sl18 => ?_)
  obtain ⟨v, hv, g⟩ := sl18.look 0 _ rfl
  have hle := sl18.len
  obtain ⟨F, xs, rfl, hF, nF, gx⟩ := DG.lstU g
  have hn : H F = none := by
    cases e : H F with
    | none => rfl
    | some o => exact absurd (fun z => by rw [e] at z; cases z) nF
  have sm : Same H H18 := (((((((((((((((((s1).trans s2).trans s3).trans s4).trans s5).trans s6).trans s7).trans s8).trans s9).trans s10).trans s11).trans s12).trans s13).trans s14).trans s15).trans s16).trans s17).trans s18
  have ok := okz_app (okz_app (okz_app (okz_app (okz_app (okz_app (okz_app (okz_app (okz_app (okz_app (okz_app (okz_app (okz_app (okz_app (okz_app (okz_app (okz_app (okz_of wo0) (okz_of wo1)) (okz_of wo2)) (okz_of wo3)) (okz_of wo4)) (okz_of wo5)) (okz_of wo6)) (okz_of wo7)) (okz_of wo8)) (okz_of wo9)) (okz_of wo10)) (okz_of wo11)) (okz_of wo12)) (okz_of wo13)) (okz_of wo14)) (okz_of wo15)) (okz_of wo16)) (okz_of wo17)
  have I0 : Ap F OkZ [none] 43 σ18 H18 := ⟨⟨(fun a e => by rw [show a = F from e, hF]; exact fun z => by cases z), (fun i d h => by
    rcases i with _ | i <;> simp at h), hle⟩, hv, xs, _, hF, okz_any gx ok, by decide, ok⟩
  clear gx g hF
  refine l_cons ((se_app (d := .str wy1) (d_addC (d_str _) (d_joinL (zs := List.replicate 9 "a = b") (d_str _) (d_mulL (k := 9) (ds := [.str "a = b"]) (d_lst (ad_cons (d_str _) ad_nil) (by decide)) (d_int 9) (by decide) (by decide)) (by decide)) (by decide +kernel)) ⟨_, rfl, wY1⟩ (by decide)) _ _ _ I0 fun σ' G1 b1 I1 => ?_)
  refine l_cons ((se_app (d := .str wy2) (d_str _) ⟨_, rfl, wY2⟩ (by decide)) _ _ _ I1 fun σ'' G2 b2 I2 => ?_)
  refine l_cons ((se_app (d := .str wy3) (d_addC (d_addC (d_str _) (d_joinL (zs := chars "abcdefghi") (d_str _) (d_listS hL (d_str _) (by decide)) (by decide +kernel)) (by decide +kernel)) (d_str _) (by decide +kernel)) ⟨_, rfl, wY3⟩ (by decide)) _ _ _ I2 fun σ3 G3 b3 I3 => ?_)
  obtain ⟨ys, es, hG, gy, ly, oy⟩ := I3.lst
  have sm3 : Same H G3 := fun a o e => b3 _ _ (ne_of_none e hn) (b2 _ _ (ne_of_none e hn) (b1 _ _ (ne_of_none e hn) (sm _ _ e)))
  refine l_one (s_ret (e_cat (e_var 0 I3.at0 ((d_lst (ds := wx) (ad_cons d_non (ad_cons (d_int 0) (ad_cons (d_bl true) (ad_cons (d_lst ad_nil (by decide)) (ad_cons (d_tup ad_nil (by decide)) (ad_cons (d_lit .dct0) (ad_cons (d_lst (ad_cons (d_str _) ad_nil) (by decide)) (ad_cons (d_tup (ad_cons (d_str _) ad_nil) (by decide)) ad_nil)))))))) (by decide)) _ _ _ _ I3.sl fun v H4 s4 g4 => ?_))))
  obtain ⟨p, zs, rfl, hp, np, gz⟩ := DG.lstU g4
  have lz := gz.length
  have ly' := gy.length
  refine ⟨F, p, ys, zs, rfl, rfl, s4 _ _ hG, hp, Nat.le_trans (show ys.length + zs.length ≤ 1000 by rw [ly', lz]; exact Nat.le_trans (Nat.add_le_add_right ly 8) (by decide)) (by decide), fun r hr => ?_⟩
  refine q r _ _ _ ((sm3.trans s4).trans (same_new hr)) upd_same ((((gy.same s4).append gz).same (same_new hr)).mono (Tup.refl _) fun a o _ e => ⟨id, e⟩) (by rw [List.length_append]; exact Nat.le_trans (Nat.add_le_add_right ly 8) (by decide)) fun d hd => ?_
  exact (List.mem_append.mp hd).elim (fun h => .inl (oy d h)) .inr
end
end K13

namespace My
open PySem PySem.Spec PyProof.Rows L2
theorem ED.castU {X : Cx} {ρ : Rho} {e : Expr} {d d' : PyData} (h : ED X ρ e d) (q : d = d') : ED X ρ e d' := q ▸ h
/-- a block that gathers in one list, so many as are told -/
structure Ax (B0 : Hp) (F : Addr) (ok : PyData → Prop) (ρ : Rho) (n : Nat) (σ : L2.St) (H : Hp) : Prop where
  sl : SL (SpF F) H σ ρ
  at0 : σ[0]? = some (some (.ref F))
  lst : ∃ xs ds, H F = some (.lst xs) ∧ DGs (SpF F) H xs ds ∧ ds.length = n ∧ ∀ d ∈ ds, ok d
  but : But F B0 H
theorem Ax.sm {B0 H0 : Hp} {F : Addr} {ok : PyData → Prop} {ρ : Rho} {n : Nat} {σ : L2.St} {H : Hp} (I : Ax B0 F ok ρ n σ H) (s : Same H0 B0) (hn : H0 F = none) : Same H0 H := fun a o e => I.but _ _ (ne_of_none e hn) (s _ _ e)
def XE (X : Cx) (B0 : Hp) (F : Addr) (ok : PyData → Prop) (st : Stmt) (ρ : Rho) (n : Nat) (ρ' : Rho) (n' : Nat) : Prop := ∀ (σ : L2.St) (H : Hp) (D : Ends), Ax B0 F ok ρ n σ H → (∀ σ' H', Ax B0 F ok ρ' n' σ' H' → D.nx σ' H') → WS X st D σ H
theorem ax_start {F : Addr} {H : Hp} {ok : PyData → Prop} {T : Addr → Prop} {x v : V} {d d1 : PyData} {ρ ρ' : Rho} {σ : L2.St} (hF : H F = none) (sl : SL T H (σ.set 0 (some v)) ρ') (g : DGs T H [x] [d]) (ho : ok d) (h0 : ρ' = some d1 :: ρ) : Ax (upd H F (.lst [x])) F ok (none :: ρ) 1 (σ.set 0 (some (.ref F))) (upd H F (.lst [x])) := by
  subst h0
  have up : ∀ {v : V} {d : PyData}, DG T H v d → DG (SpF F) (upd H F (.lst [x])) v d := fun h => h.mono (Same.tups (same_new hF)) fun a o n e => ⟨ne_of_none e hF, same_new hF _ _ e⟩
  have hl := sl.len
  rw [List.length_set] at hl
  have l0 : 0 < σ.length := by rw [hl]; exact Nat.succ_pos _
  refine ⟨⟨(fun a e => by rw [show a = F from e, upd_same]; exact fun z => by cases z), (fun i d h => ?_), by rw [List.length_set]; exact hl⟩, List.getElem?_set_self l0, ⟨[x], [d], upd_same, ?_, rfl, ?_⟩, fun _ _ _ e => e⟩
  · rcases i with _ | i
    · cases h
    · obtain ⟨u, e1, e2⟩ := sl.look (i + 1) d h
      rw [List.getElem?_set_ne (by omega)] at e1
      exact ⟨u, by rw [List.getElem?_set_ne (by omega)]; exact e1, up e2⟩
  · cases g with
    | cons a b => exact .cons (up a) .nil
  · intro y hy
    rw [List.mem_singleton.mp hy]
    exact ho
theorem one_of {S : Addr → Prop} {H : Hp} {vs : List V} {d : PyData} (g : DGs S H vs [d]) : ∃ x, vs = [x] := by
  cases g with
  | cons a b => cases b; exact ⟨_, rfl⟩
section
variable {X : Cx} {B0 : Hp} {F : Addr} {ok : PyData → Prop} {ρ : Rho} {n : Nat} {e : Expr} {d : PyData} {pos pos' apos p : Pos} {x : Str}
theorem x_set (i : Nat) (h : ED X ρ e d) (hN : X.N.Nodup) (h0 : i ≠ 0) (hi : X.N[i]? = some x := by rfl) (hx : Loc X.env.scope x := by first | exact Or.inl rfl | exact Or.inr rfl)
    (hs : swapsWith e (some (.Name x pos')) pos.line X.env = pure false := by rfl) (hf : X.fn x = true ∨ X.env.scope.names.lookup x = some .local := by first | exact .inl rfl | exact .inr rfl | assumption) :
    XE X B0 F ok (.Assign [.Name x pos'] e pos) ρ n (ρ.set i (some d)) n := fun σ H D I q =>
  s_set i (h _ σ H _ I.sl fun v H1 s1 g1 => by
    obtain ⟨xs, ds, a, b, c, k⟩ := I.lst
    exact q _ H1 ⟨(I.sl.same s1).set g1, by rw [List.getElem?_set_ne h0]; exact I.at0, ⟨xs, ds, s1 _ _ a, b.same s1, c, k⟩, I.but.trans (But.of s1)⟩) hN hi hx hs hf
theorem x_app (h : ED X ρ e d) (hd : ok d) (hn : n ≤ 1000) (hi : X.N[0]? = some x := by rfl) (hv : Vis X.env.scope x := by first | exact Or.inl rfl | exact Or.inr (Or.inl rfl) | exact Or.inr (Or.inr rfl))
    (hbase : attributeBase (.Name x p) "append" X.env (eval (.Name x p) X.env) = eval (.Name x p) X.env := by rfl)
    (hfew : ((backTo pos (starEach [e] X.env)).all (fun x => !x.1) && (backToKw pos (keywordEach [] X.env)).all (fun x => x.1.isSome) && decide ([e].length + ([] : List Keyword).length + (if ([] : List Keyword).isEmpty then 0 else 1) < 30)) = true := by rfl)
    (hline : (apos.endLine == pos.line) = true := by rfl) (hs : starEach [e] X.env = (false, eval e X.env) :: starEach [] X.env := by rfl) (hplain : (backTo pos (starEach [] X.env)).any (·.1) = false := by rfl)
    (hsw : swapsWith (.Call (.Attribute (.Name x p) "append" apos) [e] [] pos) none pos'.line X.env = pure false := by rfl)
    (hd1 : (x == ("__debug__" : Str)) = false := by decide) (hcd : (x == ("__classdict__" : Str)) = false := by decide) :
    XE X B0 F ok (.Expr (.Call (.Attribute (.Name x p) "append" apos) [e] [] pos) pos') ρ n ρ (n + 1) := fun σ H D I q => by
  obtain ⟨xs, ds, a, b, c, k⟩ := I.lst
  have lx := b.length
  refine s_app (e_var 0 I.at0 ⟨⟨F, xs, rfl, .inl (.inl a)⟩, h _ σ H _ I.sl fun v H1 s1 g1 => ⟨F, xs, rfl, s1 _ _ a, Nat.lt_of_lt_of_le (show xs.length < 10000 by omega) (by decide), ?_⟩⟩ hi hv hd1 hcd) hbase hfew hline hs hplain hsw
  have a1 := s1 _ _ a
  refine q σ _ ⟨(I.sl.same s1).keep (Tup.set a1) (fun b o nb e => by rw [upd_ne nb]; exact e) (fun b e => by rw [show b = F from e, upd_same]; exact fun z => by cases z), I.at0, ⟨xs ++ [v], ds ++ [d], upd_same, ?_, ?_, ?_⟩, fun b o nb e => by rw [upd_ne nb]; exact s1 _ _ (I.but _ _ nb e)⟩
  · exact ((b.same s1).append (.cons g1 .nil)).mono (Tup.set a1) fun b o nb e => ⟨nb, by rw [upd_ne nb]; exact e⟩
  · rw [List.length_append, c]; rfl
  · intro y hy
    rcases List.mem_append.mp hy with hy | hy
    · exact k y hy
    · rw [List.mem_singleton.mp hy]; exact hd
end
end My
namespace K13
open PySem PySem.Spec PyProof.Rows L2 My
abbrev sFine : Stmt := top 54
abbrev nFine : List Str := ["_law_some", "_law_plain", "_law_source_here", "_law_deep", "_law_asks_here", "_law_whole", "_law_text_here", "_law_told", "_law_called", "_law_many", "_law_worths", "_law_nym", "_law_k"]
theorem le1 {a b : Nat} (h : Nat.ble a b = true) : a ≤ b := Nat.le_of_ble_eq_true h
/-- a text with its statement, and that no ending of it is one -/
def fineC (z : Str) (d : PyData) : Bool := stD d && decide (cs (writeT d) = cs z) && decide (z.length ≤ 300) && z.cps.toList.all (fun c => decide (c < 128)) && d.showable && decide (d.depth ≤ 60) && decide (d.shown.length ≤ 10000) && (List.range z.length).all fun k => k == 0 || (pRead (cutS z (some (k : Int)) none)).isNone
def OkF (d : PyData) : Prop := ∃ z s, d = .tuple [.str z, s] ∧ fineC z s = true
abbrev fd1 : PyData := .tuple [.str "column", .tuple [.none, .str "a"], .str "a"]
abbrev fd2 : PyData := .tuple [.none, .str "t", .str "t"]
abbrev fp0 : PyData := .tuple [.str "select a from t", .tuple [.bool false, .tuple [.tuple [.str "column", .tuple [.none, .str "a"], .str "a"]], .tuple [.tuple [.none, .str "t", .str "t"]], .tuple []]]
theorem fo0 : OkF fp0 := ⟨_, _, rfl, by decide +kernel⟩
abbrev fz1 : Str := "select distinct p.b as a from s.t p"
abbrev fs1 : PyData := .tuple [.bool true, .tuple [.tuple [.str "column", .tuple [.str "p", .str "b"], .str "a"]], .tuple [.tuple [.str "s", .str "t", .str "p"]], .tuple []]
abbrev fp1 : PyData := .tuple [.str fz1, fs1]
theorem fo1 : OkF fp1 := ⟨_, _, rfl, by decide +kernel⟩
abbrev fv2 : PyData := .tuple [.str "call", .none, .str "f", .tuple [.tuple [.str "call", .str "s", .str "f", .tuple [.tuple [.str "call", .none, .str "f", .tuple [.str "in", .tuple [.none, .str "a"]]]]]]]
abbrev fv3 : PyData := .tuple [.tuple [.str "equal", .tuple [.none, .str "a"], .tuple [.str "t", .str "a"]], .tuple [.str "in", .tuple [.str "t", .str "a"], .tuple [.str "and", .str "where"]]]
abbrev fv4 : PyData := .tuple [.bool false, .tuple [.tuple [.str "term", .tuple [.str "call", .none, .str "f", .tuple [.tuple [.str "call", .str "s", .str "f", .tuple [.tuple [.str "call", .none, .str "f", .tuple [.str "in", .tuple [.none, .str "a"]]]]]]], .str "b"]], .tuple [.tuple [.none, .str "t", .str "t"], .tuple [.none, .str "u", .str "p"]], .tuple [.tuple [.str "equal", .tuple [.none, .str "a"], .tuple [.str "t", .str "a"]], .tuple [.str "in", .tuple [.str "t", .str "a"], .tuple [.str "and", .str "where"]]]]
abbrev ft5 : Str := "select f(s.f(f('in', a))) as b from t, u p where a = t.a and t.a in ('and', 'where')"
abbrev fv5 : PyData := .str ft5
abbrev fz2 : Str := ft5
abbrev fs2 : PyData := .tuple [.bool false, .tuple [.tuple [.str "term", .tuple [.str "call", .none, .str "f", .tuple [.tuple [.str "call", .str "s", .str "f", .tuple [.tuple [.str "call", .none, .str "f", .tuple [.str "in", .tuple [.none, .str "a"]]]]]]], .str "b"]], .tuple [.tuple [.none, .str "t", .str "t"], .tuple [.none, .str "u", .str "p"]], .tuple [.tuple [.str "equal", .tuple [.none, .str "a"], .tuple [.str "t", .str "a"]], .tuple [.str "in", .tuple [.str "t", .str "a"], .tuple [.str "and", .str "where"]]]]
abbrev fp2 : PyData := .tuple [.str fz2, fs2]
theorem fo2 : OkF fp2 := ⟨_, _, rfl, by decide +kernel⟩
abbrev fv7 : PyData := .tuple [.tuple [.str "star", .str "t"], .tuple [.str "term", .str "select", .str "id"], .tuple [.str "column", .tuple [.str "t", .str "id"], .str "id"], .tuple [.str "column", .tuple [.str "t", .str "id"], .str "t"]]
abbrev fz3 : Str := "select t.*, 'select' as id, t.id, t.id as t from t"
abbrev fs3 : PyData := .tuple [.bool false, .tuple [.tuple [.str "star", .str "t"], .tuple [.str "term", .str "select", .str "id"], .tuple [.str "column", .tuple [.str "t", .str "id"], .str "id"], .tuple [.str "column", .tuple [.str "t", .str "id"], .str "t"]], .tuple [.tuple [.none, .str "t", .str "t"]], .tuple []]
abbrev fp3 : PyData := .tuple [.str fz3, fs3]
theorem fo3 : OkF fp3 := ⟨_, _, rfl, by decide +kernel⟩
abbrev fv9 : PyData := .tuple [.str "call", .none, .str "call", .tuple [.tuple [.str "call", .str "id"]]]
abbrev fv10 : PyData := .tuple [.tuple [.str "column", .tuple [.str "call", .str "id"], .str "id"], .tuple [.str "term", .tuple [.str "call", .none, .str "call", .tuple [.tuple [.str "call", .str "id"]]], .str "a"]]
abbrev fz4 : Str := "select call.id, call(call.id) as a from call"
abbrev fs4 : PyData := .tuple [.bool false, .tuple [.tuple [.str "column", .tuple [.str "call", .str "id"], .str "id"], .tuple [.str "term", .tuple [.str "call", .none, .str "call", .tuple [.tuple [.str "call", .str "id"]]], .str "a"]], .tuple [.tuple [.none, .str "call", .str "call"]], .tuple []]
abbrev fp4 : PyData := .tuple [.str fz4, fs4]
theorem fo4 : OkF fp4 := ⟨_, _, rfl, by decide +kernel⟩
abbrev fv12 : PyData := .tuple [.tuple [.str "column", .tuple [.none, .str "a"], .str "a"], .tuple [.str "column", .tuple [.none, .str "b"], .str "b"], .tuple [.str "column", .tuple [.none, .str "c"], .str "c"], .tuple [.str "column", .tuple [.none, .str "d"], .str "d"], .tuple [.str "column", .tuple [.none, .str "e"], .str "e"], .tuple [.str "column", .tuple [.none, .str "f"], .str "f"], .tuple [.str "column", .tuple [.none, .str "g"], .str "g"], .tuple [.str "column", .tuple [.none, .str "h"], .str "h"]]
abbrev fv13 : PyData := .tuple [.str "a", .str "ab", .str "abc", .str "abcd", .str "abcde", .str "abcdef", .str "abcdefg", .str "abcdefgh"]
abbrev ft14 : Str := (catT (catT "select a, b, c, d, e, f, g, h from t where a in ('" (Txt.join "', '" ["a", "ab", "abc", "abcd", "abcde", "abcdef", "abcdefg", "abcdefgh"])) "')")
abbrev fv14 : PyData := .str ft14
abbrev fz5 : Str := ft14
abbrev fs5 : PyData := .tuple [.bool false, .tuple [.tuple [.str "column", .tuple [.none, .str "a"], .str "a"], .tuple [.str "column", .tuple [.none, .str "b"], .str "b"], .tuple [.str "column", .tuple [.none, .str "c"], .str "c"], .tuple [.str "column", .tuple [.none, .str "d"], .str "d"], .tuple [.str "column", .tuple [.none, .str "e"], .str "e"], .tuple [.str "column", .tuple [.none, .str "f"], .str "f"], .tuple [.str "column", .tuple [.none, .str "g"], .str "g"], .tuple [.str "column", .tuple [.none, .str "h"], .str "h"]], .tuple [.tuple [.none, .str "t", .str "t"]], .tuple [.tuple [.str "in", .tuple [.none, .str "a"], .tuple [.str "a", .str "ab", .str "abc", .str "abcd", .str "abcde", .str "abcdef", .str "abcdefg", .str "abcdefgh"]]]]
abbrev fp5 : PyData := .tuple [.str fz5, fs5]
theorem fo5 : OkF fp5 := ⟨_, _, rfl, by decide +kernel⟩
abbrev fv16 : PyData := .tuple [.tuple [.str "equal", .tuple [.none, .str "a"], .tuple [.str "t", .str "b"]], .tuple [.str "in", .tuple [.none, .str "a"], .tuple [.str "c"]], .tuple [.str "equal", .tuple [.none, .str "a"], .tuple [.str "t", .str "b"]], .tuple [.str "in", .tuple [.none, .str "a"], .tuple [.str "c"]], .tuple [.str "equal", .tuple [.none, .str "a"], .tuple [.str "t", .str "b"]], .tuple [.str "in", .tuple [.none, .str "a"], .tuple [.str "c"]], .tuple [.str "equal", .tuple [.none, .str "a"], .tuple [.str "t", .str "b"]], .tuple [.str "in", .tuple [.none, .str "a"], .tuple [.str "c"]]]
abbrev ft17 : Str := (catT "select a from t where " (Txt.join " and " ["a = t.b and a in ('c')", "a = t.b and a in ('c')", "a = t.b and a in ('c')", "a = t.b and a in ('c')"]))
abbrev fv17 : PyData := .str ft17
abbrev fz6 : Str := ft17
abbrev fs6 : PyData := .tuple [.bool false, .tuple [.tuple [.str "column", .tuple [.none, .str "a"], .str "a"]], .tuple [.tuple [.none, .str "t", .str "t"]], .tuple [.tuple [.str "equal", .tuple [.none, .str "a"], .tuple [.str "t", .str "b"]], .tuple [.str "in", .tuple [.none, .str "a"], .tuple [.str "c"]], .tuple [.str "equal", .tuple [.none, .str "a"], .tuple [.str "t", .str "b"]], .tuple [.str "in", .tuple [.none, .str "a"], .tuple [.str "c"]], .tuple [.str "equal", .tuple [.none, .str "a"], .tuple [.str "t", .str "b"]], .tuple [.str "in", .tuple [.none, .str "a"], .tuple [.str "c"]], .tuple [.str "equal", .tuple [.none, .str "a"], .tuple [.str "t", .str "b"]], .tuple [.str "in", .tuple [.none, .str "a"], .tuple [.str "c"]]]]
abbrev fp6 : PyData := .tuple [.str fz6, fs6]
theorem fo6 : OkF fp6 := ⟨_, _, rfl, by decide +kernel⟩
def spFine : Sp := fun vs H Q _ => vs = [] ∧ ∀ q xs ds H', Same H H' → H q = none → H' q = some (.lst xs) → DGs (fun _ => False) H' xs ds → ds.length = 7 → (∀ d ∈ ds, OkF d) → Q (.ref q) H'
section
variable {P : Program} {w : World} {K : PySem.W.Frag} {mg : Str → Option Value} {base : Heap}
theorem scFine : FnScope nFine [] (defScope sFine) := ⟨rfl, rfl, rfl, by decide +kernel, rfl, by decide +kernel, by decide +kernel⟩
theorem ok_fine {f : Addr} {fd : FuncData} (F : Fun K "_law_fine" "_law_fine" sFine f fd) (G : Bt w K mg) : FnOk P w K mg base CX0 1 f fd [] spFine := by
  refine Fun.okW F scFine (fun vs H Q E h => by rw [h.1]; rfl) (fun cdv B out s H vs Q E hr h => ?_)
  obtain ⟨rfl, q⟩ := h
  have sl0 : SL (fun a => H a ≠ none) H (List.replicate 13 none) (List.replicate 13 none) := ⟨fun a e => e, (fun i d h => by
    rw [List.getElem?_replicate] at h
    split at h <;> cases h), rfl⟩
  refine l_cons ((sd_unp2 (da := fd1) (db := fd2) 1 2 (d_tup (ad_cons (d_tup (ad_cons (d_str _) (ad_cons (d_tup (ad_cons (d_non) (ad_cons (d_str _) ad_nil)) (le1 rfl)) (ad_cons (d_str _) ad_nil))) (le1 rfl)) (ad_cons (d_tup (ad_cons (d_non) (ad_cons (d_str _) (ad_cons (d_str _) ad_nil))) (le1 rfl)) ad_nil)) (le1 rfl)) (pg_tup rfl (pgs_cons (pg_name (i := 1) scFine.nd rfl (.inl rfl)) (pgs_cons (pg_name (i := 2) scFine.nd rfl (.inl rfl)) pgs_nil)))) (fun a => H a ≠ none) _ _ _ sl0 fun σ1 H1 s1 sl1 => ?_)
  refine l_cons (s_set 0 (e_lst ((ad_cons (d := fp0) (d_tup (ad_cons (d_str _) (ad_cons (d_tup (ad_cons (d_bl false) (ad_cons (d_tup (ad_cons (d_var 1) ad_nil) (le1 rfl)) (ad_cons (d_tup (ad_cons (d_var 2) ad_nil) (le1 rfl)) (ad_cons (d_tup ad_nil (le1 rfl)) ad_nil)))) (le1 rfl)) ad_nil)) (le1 rfl)) ad_nil) (fun a => H a ≠ none) _ _ _ sl1 fun vs H2 s2 g2 => ?_)) scFine.nd)
  obtain ⟨x0, rfl⟩ := one_of g2
  refine ⟨by show 1 ≤ sizeLine; decide, fun F hF => ?_⟩
  have hn : H F = none := by
    cases e : H F with
    | none => rfl
    | some o => rw [s2 _ _ (s1 _ _ e)] at hF; cases hF
  have sm0 : Same H (upd H2 F (.lst [x0])) := (s1.trans s2).trans (same_new hF)
  have I0 := ax_start hF ((sl1.same s2).set (i := 0) (.bl true)) g2 fo0 rfl
  refine l_cons ((x_app (d := fp1) (ED.castU (d_tup (ad_cons (d_str _) (ad_cons (d_tup (ad_cons (d_bl true) (ad_cons (d_tup (ad_cons (d_tup (ad_cons (d_str _) (ad_cons (d_tup (ad_cons (d_str _) (ad_cons (d_str _) ad_nil)) (le1 rfl)) (ad_cons (d_str _) ad_nil))) (le1 rfl)) ad_nil) (le1 rfl)) (ad_cons (d_tup (ad_cons (d_tup (ad_cons (d_str _) (ad_cons (d_str _) (ad_cons (d_str _) ad_nil))) (le1 rfl)) ad_nil) (le1 rfl)) (ad_cons (d_tup ad_nil (le1 rfl)) ad_nil)))) (le1 rfl)) ad_nil)) (le1 rfl)) rfl) fo1 (by decide)) _ _ _ I0 fun τ1 J1 I1 => ?_)
  refine l_cons ((x_set 3 (d := fv2) (ED.castU (d_tup (ad_cons (d_str _) (ad_cons (d_non) (ad_cons (d_str _) (ad_cons (d_tup (ad_cons (d_tup (ad_cons (d_str _) (ad_cons (d_str _) (ad_cons (d_str _) (ad_cons (d_tup (ad_cons (d_tup (ad_cons (d_str _) (ad_cons (d_non) (ad_cons (d_str _) (ad_cons (d_tup (ad_cons (d_str _) (ad_cons (d_tup (ad_cons (d_non) (ad_cons (d_str _) ad_nil)) (le1 rfl)) ad_nil)) (le1 rfl)) ad_nil)))) (le1 rfl)) ad_nil) (le1 rfl)) ad_nil)))) (le1 rfl)) ad_nil) (le1 rfl)) ad_nil)))) (le1 rfl)) rfl) scFine.nd (by decide)) _ _ _ I1 fun τ2 J2 I2 => ?_)
  refine l_cons ((x_set 4 (d := fv3) (ED.castU (d_tup (ad_cons (d_tup (ad_cons (d_str _) (ad_cons (d_tup (ad_cons (d_non) (ad_cons (d_str _) ad_nil)) (le1 rfl)) (ad_cons (d_tup (ad_cons (d_str _) (ad_cons (d_str _) ad_nil)) (le1 rfl)) ad_nil))) (le1 rfl)) (ad_cons (d_tup (ad_cons (d_str _) (ad_cons (d_tup (ad_cons (d_str _) (ad_cons (d_str _) ad_nil)) (le1 rfl)) (ad_cons (d_tup (ad_cons (d_str _) (ad_cons (d_str _) ad_nil)) (le1 rfl)) ad_nil))) (le1 rfl)) ad_nil)) (le1 rfl)) rfl) scFine.nd (by decide)) _ _ _ I2 fun τ3 J3 I3 => ?_)
  refine l_cons ((x_set 5 (d := fv4) (ED.castU (d_tup (ad_cons (d_bl false) (ad_cons (d_tup (ad_cons (d_tup (ad_cons (d_str _) (ad_cons (d_var 3) (ad_cons (d_str _) ad_nil))) (le1 rfl)) ad_nil) (le1 rfl)) (ad_cons (d_tup (ad_cons (d_var 2) (ad_cons (d_tup (ad_cons (d_non) (ad_cons (d_str _) (ad_cons (d_str _) ad_nil))) (le1 rfl)) ad_nil)) (le1 rfl)) (ad_cons (d_var 4) ad_nil)))) (le1 rfl)) rfl) scFine.nd (by decide)) _ _ _ I3 fun τ4 J4 I4 => ?_)
  refine l_cons ((x_set 6 (d := fv5) (d_str _) scFine.nd (by decide)) _ _ _ I4 fun τ5 J5 I5 => ?_)
  refine l_cons ((x_app (d := fp2) (ED.castU (d_tup (ad_cons (d_var 6) (ad_cons (d_var 5) ad_nil)) (le1 rfl)) rfl) fo2 (by decide)) _ _ _ I5 fun τ6 J6 I6 => ?_)
  refine l_cons ((x_set 7 (d := fv7) (ED.castU (d_tup (ad_cons (d_tup (ad_cons (d_str _) (ad_cons (d_str _) ad_nil)) (le1 rfl)) (ad_cons (d_tup (ad_cons (d_str _) (ad_cons (d_str _) (ad_cons (d_str _) ad_nil))) (le1 rfl)) (ad_cons (d_tup (ad_cons (d_str _) (ad_cons (d_tup (ad_cons (d_str _) (ad_cons (d_str _) ad_nil)) (le1 rfl)) (ad_cons (d_str _) ad_nil))) (le1 rfl)) (ad_cons (d_tup (ad_cons (d_str _) (ad_cons (d_tup (ad_cons (d_str _) (ad_cons (d_str _) ad_nil)) (le1 rfl)) (ad_cons (d_str _) ad_nil))) (le1 rfl)) ad_nil)))) (le1 rfl)) rfl) scFine.nd (by decide)) _ _ _ I6 fun τ7 J7 I7 => ?_)
  refine l_cons ((x_app (d := fp3) (ED.castU (d_tup (ad_cons (d_str _) (ad_cons (d_tup (ad_cons (d_bl false) (ad_cons (d_var 7) (ad_cons (d_tup (ad_cons (d_var 2) ad_nil) (le1 rfl)) (ad_cons (d_tup ad_nil (le1 rfl)) ad_nil)))) (le1 rfl)) ad_nil)) (le1 rfl)) rfl) fo3 (by decide)) _ _ _ I7 fun τ8 J8 I8 => ?_)
  refine l_cons ((x_set 8 (d := fv9) (ED.castU (d_tup (ad_cons (d_str _) (ad_cons (d_non) (ad_cons (d_str _) (ad_cons (d_tup (ad_cons (d_tup (ad_cons (d_str _) (ad_cons (d_str _) ad_nil)) (le1 rfl)) ad_nil) (le1 rfl)) ad_nil)))) (le1 rfl)) rfl) scFine.nd (by decide)) _ _ _ I8 fun τ9 J9 I9 => ?_)
  refine l_cons ((x_set 7 (d := fv10) (ED.castU (d_tup (ad_cons (d_tup (ad_cons (d_str _) (ad_cons (d_tup (ad_cons (d_str _) (ad_cons (d_str _) ad_nil)) (le1 rfl)) (ad_cons (d_str _) ad_nil))) (le1 rfl)) (ad_cons (d_tup (ad_cons (d_str _) (ad_cons (d_var 8) (ad_cons (d_str _) ad_nil))) (le1 rfl)) ad_nil)) (le1 rfl)) rfl) scFine.nd (by decide)) _ _ _ I9 fun τ10 J10 I10 => ?_)
  refine l_cons ((x_app (d := fp4) (ED.castU (d_tup (ad_cons (d_str _) (ad_cons (d_tup (ad_cons (d_bl false) (ad_cons (d_var 7) (ad_cons (d_tup (ad_cons (d_tup (ad_cons (d_non) (ad_cons (d_str _) (ad_cons (d_str _) ad_nil))) (le1 rfl)) ad_nil) (le1 rfl)) (ad_cons (d_tup ad_nil (le1 rfl)) ad_nil)))) (le1 rfl)) ad_nil)) (le1 rfl)) rfl) fo4 (by decide)) _ _ _ I10 fun τ11 J11 I11 => ?_)
  refine l_cons ((x_set 9 (d := fv12) (ED.castU (d_tupL G.tuple (d_lcS 11 (fun c => .tuple [.str "column", .tuple [.none, .str ⟨#[c]⟩], .str ⟨#[c]⟩]) scFine.nd (blkOk_by (N := nFine) (sc := defScope sFine) (by decide +kernel)) (d_str _) (by decide) (fun c hc s0 H00 C cl fp => d_tup (ad_cons (d_str _) (ad_cons (d_tup (ad_cons d_non (ad_cons (d_var 11) ad_nil)) (le1 rfl)) (ad_cons (d_var 11) ad_nil))) (le1 rfl)) (fun _ _ _ _ _ => pg_name (i := 11) scFine.nd rfl (Or.inl rfl)))) rfl) scFine.nd (by decide)) _ _ _ I11 fun τ12 J12 I12 => ?_)
  refine l_cons ((x_set 10 (d := fv13) (ED.castU (d_tupL G.tuple (d_lcR (n := 8) 12 (fun k => .str (cutS "abcdefgh" none (some ((k : Int) + 1)))) G.range scFine.nd (blkOk_by (N := nFine) (sc := defScope sFine) (by decide +kernel)) (d_int 8) (by decide) (fun i hi s0 H00 C cl fp => d_slSto (d_str _) (d_addI (d_var 12) (d_int 1)) (by decide)) (fun _ _ _ _ _ => pg_name (i := 12) scFine.nd rfl (Or.inl rfl)))) rfl) scFine.nd (by decide)) _ _ _ I12 fun τ13 J13 I13 => ?_)
  refine l_cons ((x_set 6 (d := fv14) (d_addC (d_addC (d_str _) (d_joinL (zs := ["a", "ab", "abc", "abcd", "abcde", "abcdef", "abcdefg", "abcdefgh"]) (d_str _) (ED.castU (d_listT G.list (d_var 10)) rfl) (by decide +kernel)) (by decide +kernel)) (d_str _) (by decide +kernel)) scFine.nd (by decide)) _ _ _ I13 fun τ14 J14 I14 => ?_)
  refine l_cons ((x_app (d := fp5) (ED.castU (d_tup (ad_cons (d_var 6) (ad_cons (d_tup (ad_cons (d_bl false) (ad_cons (d_var 9) (ad_cons (d_tup (ad_cons (d_var 2) ad_nil) (le1 rfl)) (ad_cons (d_tup (ad_cons (d_tup (ad_cons (d_str _) (ad_cons (d_tup (ad_cons (d_non) (ad_cons (d_str _) ad_nil)) (le1 rfl)) (ad_cons (d_var 10) ad_nil))) (le1 rfl)) ad_nil) (le1 rfl)) ad_nil)))) (le1 rfl)) ad_nil)) (le1 rfl)) rfl) fo5 (by decide)) _ _ _ I14 fun τ15 J15 I15 => ?_)
  refine l_cons ((x_set 4 (d := fv16) (ED.castU (d_mulT (k := 4) (d_tup (ad_cons (d_tup (ad_cons (d_str _) (ad_cons (d_tup (ad_cons (d_non) (ad_cons (d_str _) ad_nil)) (le1 rfl)) (ad_cons (d_tup (ad_cons (d_str _) (ad_cons (d_str _) ad_nil)) (le1 rfl)) ad_nil))) (le1 rfl)) (ad_cons (d_tup (ad_cons (d_str _) (ad_cons (d_tup (ad_cons (d_non) (ad_cons (d_str _) ad_nil)) (le1 rfl)) (ad_cons (d_tup (ad_cons (d_str _) ad_nil) (le1 rfl)) ad_nil))) (le1 rfl)) ad_nil)) (le1 rfl)) (d_int 4) (by decide) (by decide) (by decide)) rfl) scFine.nd (by decide)) _ _ _ I15 fun τ16 J16 I16 => ?_)
  refine l_cons ((x_set 6 (d := fv17) (d_addC (d_str _) (d_joinL (zs := ["a = t.b and a in ('c')", "a = t.b and a in ('c')", "a = t.b and a in ('c')", "a = t.b and a in ('c')"]) (d_str _) (ED.castU (d_mulL (k := 4) (ds := [.str "a = t.b and a in ('c')"]) (d_lst (ad_cons (d_str _) ad_nil) (by decide)) (d_int 4) (by decide) (by decide)) rfl) (by decide +kernel)) (by decide +kernel)) scFine.nd (by decide)) _ _ _ I16 fun τ17 J17 I17 => ?_)
  refine l_cons ((x_app (d := fp6) (ED.castU (d_tup (ad_cons (d_var 6) (ad_cons (d_tup (ad_cons (d_bl false) (ad_cons (d_tup (ad_cons (d_var 1) ad_nil) (le1 rfl)) (ad_cons (d_tup (ad_cons (d_var 2) ad_nil) (le1 rfl)) (ad_cons (d_var 4) ad_nil)))) (le1 rfl)) ad_nil)) (le1 rfl)) rfl) fo6 (by decide)) _ _ _ I17 fun τ18 J18 I18 => ?_)
  obtain ⟨xs, ds, hX, gX, lX, oX⟩ := I18.lst
  exact l_one (s_ret (e_var 0 I18.at0 (q F xs ds _ (I18.sm sm0 hn) hn hX (gX.mono (Tup.refl _) fun a o _ e => ⟨id, e⟩) lX oX)))
end
end K13

namespace My
open PySem PySem.Spec PyProof.Rows L2
section
variable {X : Cx} {σ : L2.St} {H : Hp} {Q : VK} {pos p1 : Pos} {x : Str}
/-- a call of a def without arguments, by its name -/
theorem e_c0 {k j : Nat} {sp : Sp} (c : CalN X.prog X.w X.K X.mg X.base k x sp) (hr : Room j X.A) (hk : k ≤ j) (h : sp [] H Q E0) (hg : Gl X x := by rfl)
    (hdb : (x == ("__debug__" : Str)) = false := by decide) : WE X (.Call (.Name x p1) [] [] pos) σ H Q := by
  obtain ⟨f, fd, ps, F, hm, kp, hb⟩ := c.ex
  exact toE (pe_call0 F (hr.mono hk) hg hm kp hb .nil pass0 hdb) h
end
theorem pRead_of {z : Str} {e : PyData} (h : pRead z = some e) : stD e = true ∧ writeT e = z := by
  unfold pRead at h
  obtain ⟨x, h1, h2⟩ := Option.bind_eq_some_iff.mp h
  unfold pStmtC at h1
  obtain ⟨y, h3, h4⟩ := Option.bind_eq_some_iff.mp h1
  by_cases c : stD y.1 = true ∧ cs (writeT y.1) = (cs z).take ((cs z).length - y.2.length)
  · rw [if_pos c] at h4
    obtain rfl : y = x := Option.some.inj h4
    by_cases c2 : y.2 = []
    · rw [if_pos c2] at h2
      cases h2
      refine ⟨c.1, str_ext ?_⟩
      have e := c.2
      rw [c2, List.length_nil, Nat.sub_zero, List.take_length] at e
      exact e
    · rw [if_neg c2] at h2; cases h2
  · rw [if_neg c] at h4; cases h4
end My
namespace K13
open PySem PySem.Spec PyProof.Rows L2 My
abbrev sLaw : Stmt := top 55
abbrev nLaw : List Str := ["_law_script", "_law_pen_here", "_law_one", "_law_before", "_law_text_here", "_law_due", "_law_size", "_law_found_here"]
def spLaw (K : PySem.W.Frag) : Sp := fun vs H Q _ => ∃ (a : Addr) (ns : List Int), vs = [.ref a] ∧ SqL K H a (ns.map V.int) ∧ ns.length ≤ 63 ∧ ∀ H', Q (.bl true) H'
theorem scLaw : FnScope nLaw ["_law_script"] (defScope sLaw) := ⟨rfl, rfl, rfl, by decide +kernel, rfl, by decide +kernel, by decide +kernel⟩
theorem okW_repr {d : PyData} (h : OkW d) : d.showable = true ∧ d.depth ≤ 60 ∧ d.shown.length ≤ sizeLine := by
  rcases h with ⟨z, rfl, w⟩ | h
  · have r := shown_str w.sm w.len
    have l := w.len
    exact ⟨r.1, r.2.1, Nat.le_trans r.2.2 (Nat.le_trans (show 10 * z.length + 2 ≤ 1000000 by omega) (by decide))⟩
  · have : wx.all (fun d => d.showable && decide (d.depth ≤ 60) && decide (d.shown.length ≤ 100)) = true := by decide +kernel
    have e := List.all_eq_true.mp this d h
    rw [Bool.and_eq_true, Bool.and_eq_true] at e
    exact ⟨e.1.1, of_decide_eq_true e.1.2, Nat.le_trans (of_decide_eq_true e.2) (by decide)⟩
theorem okW_str {z : Str} (h : OkW (.str z)) : WOk z := by
  rcases h with ⟨y, e, w⟩ | h
  · cases e; exact w
  · have : wx.all (fun d => match d with | .str _ => false | _ => true) = true := by decide +kernel
    have e := List.all_eq_true.mp this _ h
    cases e
structure FOk (z : Str) (d : PyData) : Prop where
  st : stD d = true
  wr : writeT d = z
  len : z.length ≤ 300
  low : okD (.str z) = true
  rep : d.showable = true ∧ d.depth ≤ 60 ∧ d.shown.length ≤ sizeLine
  cut : ∀ k : Nat, 0 < k → k < z.length → pRead (cutS z (some (k : Int)) none) = none
theorem fok_of {z : Str} {d : PyData} (h : fineC z d = true) : FOk z d := by
  unfold fineC at h
  have low : ∀ z : Str, okD (.str z) = (z.cps.toList.all fun c => decide (c < 128)) := fun _ => rfl
  rw [← low] at h
  clear low
  simp only [Bool.and_eq_true, decide_eq_true_eq, List.all_eq_true, List.mem_range, Bool.or_eq_true, beq_iff_eq] at h
  obtain ⟨⟨⟨⟨⟨⟨⟨h1, h2⟩, h3⟩, h4⟩, h5⟩, h6⟩, h7⟩, h8⟩ := h
  exact ⟨h1, str_ext h2, h3, h4, ⟨h5, h6, Nat.le_trans h7 (by decide)⟩, fun k k0 k1 => (h8 k k1).elim (fun z => absurd z (by omega)) no_of⟩
theorem cutS_len {z : Str} {lo hi : Option Int} : (cutS z lo hi).length ≤ z.length := by
  show (cutS z lo hi).cps.size ≤ z.cps.size
  unfold cutS
  simp only [List.size_toArray, List.length_take, List.length_drop, Array.length_toList]
  omega
theorem two_of {H : Hp} {ws : List V} {z : Str} {u : PyData} (g : DTs H ws [.str z, u]) : ∃ v, ws = [.str z, v] ∧ DT H v u := by
  cases g with | cons a b => cases b with | cons b c => cases c; cases a; exact ⟨_, rfl, b⟩
theorem fok_some {z : Str} {d : PyData} (h : FOk z d) : pRead z = some d := by
  have := pRead_write h.st
  rw [h.wr] at this
  exact this
section
variable {P : Program} {w : World} {K : PySem.W.Frag} {mg : Str → Option Value} {base : Heap}
theorem ok_law {f : Addr} {fd : FuncData} (F : Fun K "law" "law" sLaw f fd) (G : Bt w K mg) (cP : CalN P w K mg base 1 "_law_pen" (spPen K)) (cD : CalN P w K mg base 2 "_law_draw" spDraw) (cB : CalN P w K mg base 1 "_law_wrong" spWrong) (cF : CalN P w K mg base 1 "_law_fine" spFine)
    (cN : CalN P w K mg base 14 "_law_found" spFound) (cW : CalN P w K mg base 7 "write" K13R.spWr) : FnG P w K mg base 15 f fd ["_law_script"] (spLaw K) := by
  refine Fun.okG F scLaw (fun vs H Q E h => by obtain ⟨a, ns, rfl, _⟩ := h; rfl) (fun cdv B out s H vs Q E hr hG h => ?_)
  obtain ⟨a, ns, rfl, hS, hl, q⟩ := h
  refine l_cons (s_set 1 (e_c cP hr (by decide) (a_cons (e_var 0 rfl (a_nil ⟨a, ns, rfl, hS, hl, fun p L H1 s1 hp hL P1 => ?_⟩)))) scLaw.nd)
  -- texts that are none
  refine l_cons (s_forL (pg_name (i := 2) scLaw.nd rfl (.inl rfl)) (e_c0 cB hr (by decide) ⟨rfl, fun r ys ds H2 s2 hr2 gy ly oy => ?_⟩) PassesOwn.never)
  refine ⟨r, ys, rfl, .inl (.inl hr2), fun i σ H => ∃ t2 t3, σ = [some (.ref a), some (.ref p), t2, t3, none, none, none, none] ∧ Same H2 H, ⟨none, none, rfl, Same.refl _⟩, (fun i σ H _ ⟨_, _, _, s⟩ => .inl (.inl (s _ _ hr2))), ?_, ?_⟩
  · rintro i y σ H hi ⟨t2, t3, rfl, s3⟩
    obtain ⟨d, hd, gd⟩ := gy.get hi
    have ok := oy d (List.mem_of_getElem? hd)
    have gd' := gd.same s3
    have rp := okW_repr ok
    show WL _ _ _ [some (.ref a), some (.ref p), some y, t3, none, none, none, none] H
    refine l_cons (s_set 3 (e_reprA G.repr hG hr.units (e_var 2 rfl ⟨_, d, gd', rp.1, rp.2.1, rp.2.2, ?_⟩)) scLaw.nd)
    refine l_one (s_if (t_w (w_or (t_cmp (op_neS hr.units) (e_c cN hr (by decide) (a_cons (e_var 2 rfl (a_nil ⟨y, d, _, rfl, gd', (fun z ez => by subst ez; exact Nat.le_trans (okW_str ok).len (by decide)), (fun z e ez er => by subst ez; rw [(okW_str ok).no] at er; cases er), fun _ H4 s4 => e_str ⟨fun _ => False, .str "none", "none", .str _, rfl, _, rfl, ?_⟩⟩))))))))
    refine ⟨(fun h => by cases h), fun _ => w_or1 (t_ne (e_reprA G.repr hG hr.units (e_var 2 rfl ⟨_, d, gd'.same s4, rp.1, rp.2.1, rp.2.2, e_var 3 rfl ⟨rfl, ?_⟩⟩)))⟩
    rw [decide_eq_true rfl]
    exact ⟨(fun h => by cases h), fun _ => l_nil ⟨_, _, rfl, s3.trans s4⟩⟩
  rintro σ H3 ⟨t2, t3, rfl, s3⟩
  have P3 := (P1.same s2).same s3
  -- texts with their statements
  refine l_cons (s_forL (pg_tup rfl (pgs_cons (pg_name (i := 4) scLaw.nd rfl (.inl rfl)) (pgs_cons (pg_name (i := 5) scLaw.nd rfl (.inl rfl)) pgs_nil))) (e_c0 cF hr (by decide) ⟨rfl, fun r xs ds H5 s5 _ hx gx lx ox => ?_⟩) PassesOwn.never)
  refine ⟨r, xs, rfl, .inl (.inl hx), fun i σ H => ∃ t4 t5, σ = [some (.ref a), some (.ref p), t2, t3, t4, t5, none, none] ∧ Same H5 H, ⟨none, none, rfl, Same.refl _⟩, (fun i σ H _ ⟨_, _, _, s⟩ => .inl (.inl (s _ _ hx))), ?_, ?_⟩
  · rintro i y σ H hi ⟨t4, t5, rfl, s6⟩
    obtain ⟨d, hd, gd⟩ := gx.get hi
    obtain ⟨z, u, rfl, fc⟩ := ox d (List.mem_of_getElem? hd)
    have fo := fok_of fc
    have gd' := gd.same s6
    have dt0 := DG.dt gd' (okD2 fo.low (okD_st fo.st))
    obtain ⟨b, ws, rfl, hb, gs⟩ := dt0.tupE
    obtain ⟨v2, rfl, dt⟩ := two_of gs
    refine ⟨b, _, rfl, .inl (.inl hb), rfl, _, _, rfl, _, _, rfl, rfl, ?_⟩
    have lz := fo.len
    show WL _ _ _ [some (.ref a), some (.ref p), t2, t3, some (.str z), some v2, none, none] H
    refine l_one (s_if (t_w (w_or (t_ne (e_reprA G.repr hG hr.units (e_c cN hr (by decide) (a_cons (e_var 4 rfl (a_nil ⟨_, .str z, fun _ => False, rfl, .str _, (fun y ez => by cases ez; omega), fun y e ez er u7 H7 s7 g7 => ?_, fun hn => absurd (hn _ rfl) (by rw [fok_some fo]; exact fun z => by cases z)⟩)))))))))
    cases ez
    rw [fok_some fo] at er
    cases er
    refine ⟨fun _ => False, u, DT.dg g7, fo.rep.1, fo.rep.2.1, fo.rep.2.2, ?_⟩
    refine e_reprA G.repr hG hr.units (e_var 5 rfl ⟨fun _ => False, u, DT.dg (dt.mono (Same.tups s7)), fo.rep.1, fo.rep.2.1, fo.rep.2.2, rfl, ?_⟩)
    rw [decide_eq_true rfl]
    refine ⟨(fun h => by cases h), fun _ => w_or1 (t_ne (e_c cW hr (by decide) (a_cons (e_var 5 rfl (a_nil ⟨v2, u, rfl, dt.mono (Same.tups s7), fo.st, fun H8 s8 => e_var 4 rfl ⟨rfl, ?_⟩⟩)))))⟩
    rw [fo.wr, decide_eq_true rfl]
    exact ⟨(fun h => by cases h), fun _ => l_nil ⟨_, _, rfl, (s6.trans s7).trans s8⟩⟩
  rintro σ H6 ⟨t4, t5, rfl, s6⟩
  have P6 := (P3.same s5).same s6
  clear hx gx ox lx
  -- a drawn one
  refine l_cons (s_set 4 (e_ixT (e_ixL (e_c0 cF hr (by decide) ⟨rfl, fun r xs ds H7 s7 hn hx gx lx ox => e_c cD hr (by decide) (a_cons (e_var 1 rfl (a_cons (e_int (a_nil ⟨p, L, 0, 7, rfl, P6.same s7, by decide, by decide, by decide, fun k H8 b8 P8 hk => ?_⟩)))))⟩))) scLaw.nd)
  have hrp : r ≠ p := P6.newP hn
  have hx8 := b8 _ _ hrp hx
  have lk : k < xs.length := by rw [gx.length, lx]; omega
  obtain ⟨d, hd, gd⟩ := gx.get (List.getElem?_eq_getElem lk)
  obtain ⟨z, u, rfl, fc⟩ := ox d (List.mem_of_getElem? hd)
  have fo := fok_of fc
  have dt8 := (DG.dt gd (okD2 fo.low (okD_st fo.st))).mono ((P6.same s7).tups b8)
  obtain ⟨b, ws, eb, hb, gs⟩ := dt8.tupE
  obtain ⟨v2, rfl, _⟩ := two_of gs
  refine ⟨r, xs, k, xs[k], rfl, rfl, .inl (.inl hx8), atI_nat (List.getElem?_eq_getElem lk), ?_⟩
  rw [eb]
  refine e_int ⟨b, _, 0, .str z, rfl, rfl, .inl (.inl hb), rfl, ?_⟩
  have lz := fo.len
  have ll : z.length ≤ sizeLine := Nat.le_trans lz (by decide)
  clear hx hx8 gx lx ox hd gd dt8 hb gs eb fc
  show WL _ _ _ [some (.ref a), some (.ref p), t2, t3, some (.str z), t5, none, none] H8
  refine l_cons (s_for (pi_range2 rfl G.range pA) (pg_name (i := 6) scLaw.nd rfl (.inl rfl)) (a_cons (e_int (a_cons (e_lenS G.len (e_var 4 rfl ⟨z, rfl, ll, a_nil ⟨1, (z.length : Int), rfl, ⟨by omega, by omega, by omega, by omega⟩, for_range (lo := 1) (n := ((z.length : Int) - 1).toNat) (fun i σ H => ∃ t6 t7, σ = [some (.ref a), some (.ref p), t2, t3, some (.str z), t5, t6, t7]) ⟨none, none, rfl⟩ ?_ ?_⟩⟩))))) PassesOwn.never)
  · rintro i σ H hi ⟨t6, t7, rfl⟩
    have ei : (1 : Int) + (i : Int) = ((i + 1 : Nat) : Int) := by omega
    have k1 : i + 1 < z.length := by omega
    rw [ei]
    show WL _ _ _ [some (.ref a), some (.ref p), t2, t3, some (.str z), t5, some (.int ((i + 1 : Nat) : Int)), t7] H
    refine l_cons (s_if (t_cmp (op_neS hr.units) (e_c cN hr (by decide) (a_cons (e_slSfrom (e_var 4 rfl (e_var 6 rfl ⟨_, z, rfl, rfl, ll, a_nil ⟨_, .str (cutS z (some ((i + 1 : Nat) : Int)) none), fun _ => False, rfl, .str _, (fun y ez => by cases ez; exact Nat.le_trans (Nat.le_trans cutS_len lz) (by decide)), (fun y e ez er => by cases ez; rw [fo.cut (i + 1) (by omega) k1] at er; cases er), fun _ H9 s9 => e_str ⟨fun _ => False, .str "none", "none", .str _, rfl, _, rfl, ?_⟩⟩⟩)))))))
    refine ⟨(fun h => by cases h), fun _ => l_nil ?_⟩
    generalize hy : cutS z none (some ((i + 1 : Nat) : Int)) = y
    have ly : y.length ≤ 300 := by rw [← hy]; exact Nat.le_trans cutS_len lz
    refine l_cons (s_set 7 (e_c cN hr (by decide) (a_cons (e_slSto (e_var 4 rfl (e_var 6 rfl ⟨_, z, rfl, rfl, ll, a_nil ⟨_, .str y, fun _ => False, by rw [hy]; rfl, .str _, (fun y' ez => by cases ez; omega), fun y' e ez er v H10 s10 g10 => ?_, fun _ H10 s10 => ?_⟩⟩))))) scLaw.nd)
    · cases ez
      obtain ⟨st, ew⟩ := pRead_of er
      show WL _ _ _ [some (.ref a), some (.ref p), t2, t3, some (.str z), t5, some (.int ((i + 1 : Nat) : Int)), some v] H10
      have ne : ∀ x, eqS e x = false := fun x => by
        obtain ⟨b, ts, ss, cc, rfl, _⟩ := stE st
        rfl
      refine l_one (s_if (t_w (w_or (t_cmp (op_eqS hr.units) (e_var 7 rfl (e_str ⟨fun _ => False, e, "other", DT.dg g10, rfl, _, rfl, ?_⟩))))))
      rw [ne]
      refine ⟨(fun h => by cases h), fun _ => w_or1 (t_w (w_and (t_cmp (op_neS hr.units) (e_var 7 rfl (e_str ⟨fun _ => False, e, "none", DT.dg g10, rfl, _, rfl, ?_⟩)))))⟩
      rw [ne]
      refine ⟨fun _ => w_and1 (t_ne (e_c cW hr (by decide) (a_cons (e_var 7 rfl (a_nil ⟨v, e, rfl, g10, st, fun H11 s11 => e_slSto (e_var 4 rfl (e_var 6 rfl ⟨_, z, rfl, rfl, ll, rfl, ?_⟩))⟩))))), fun h => by cases h⟩
      rw [ew, hy, decide_eq_true rfl]
      exact ⟨(fun h => by cases h), fun _ => l_nil ⟨_, _, rfl⟩⟩
    · show WL _ _ _ [some (.ref a), some (.ref p), t2, t3, some (.str z), t5, some (.int ((i + 1 : Nat) : Int)), some (.str "none")] H10
      refine l_one (s_if (t_w (w_or (t_cmp (op_eqS hr.units) (e_var 7 rfl (e_str ⟨fun _ => False, .str "none", "other", .str _, rfl, _, rfl, ?_⟩))))))
      refine ⟨(fun h => by cases h), fun _ => w_or1 (t_w (w_and (t_cmp (op_neS hr.units) (e_var 7 rfl (e_str ⟨fun _ => False, .str "none", "none", .str _, rfl, _, rfl, ?_⟩)))))⟩
      refine ⟨(fun h => by cases h), fun _ => ?_⟩
      exact ⟨(fun h => by cases h), fun _ => l_nil ⟨_, _, rfl⟩⟩
  · rintro σ H ⟨t6, t7, rfl⟩
    exact l_one (s_ret (e_bl (q _)))
end
end K13

namespace K13
open PySem PySem.Spec PyProof.Rows L2 My
theorem kit_val {K : PySem.W.Frag} {D : Addr} (h : PySem.W.subIn K (.ref D) (.type "ValueError") = some true) : PySem.W.kitOne K (.ref D) (.type "ValueError") = some true := by
  have n : ¬ ((Value.ref D == Value.type "ValueError") = true) := fun z => by cases eq_of_beq z
  unfold PySem.W.kitOne
  rw [if_neg n]
  show (if PySem.W.kitMeta "ValueError" = true then PySem.W.subIn K (.ref D) (.type "ValueError") else none) = some true
  rw [if_pos (by decide), h]
/-! ### what the top has written -/
structure Wr (K : PySem.W.Frag) (x : Str) (st : Stmt) (f : Addr) (fd : FuncData) : Prop where
  fn : Fun K x x st f fd
  a : PySem.W.nsIn K mainGlobals x = some (some (.ref f))
theorem Wr.mg {K : PySem.W.Frag} {x : Str} {st : Stmt} {f : Addr} {fd : FuncData} {h : Heap} {mg : Str → Option Value} (W : Wr K x st f fd) (X : K.In h) (G : h.Ns mainGlobals mg) : mg x = some (.ref f) := PySem.W.mg_of X G W.a
theorem wr_mk {K : PySem.W.Frag} {x : Str} {st : Stmt} {f : Addr} {oc : Value} {od an : Option Addr} {osl : Array (Option Value)} {kV doc pm cdv ct : Value} (a : PySem.W.nsIn K mainGlobals x = some (some (.ref f))) (l : K.lookup f = some ⟨oc, od, .func (PySem.W.fnOf x x (defArgs st) (defBody st) (defScope st) .none kV doc pm an cdv ct), osl⟩)
    (c : PySem.W.codeIn K cdv x = true) (k : PySem.W.keepIn K (.ref f) = true) : ∃ fd, Wr K x st f fd := ⟨_, fun_mk (st := st) l c k, a⟩
structure Wm (K : PySem.W.Frag) (C : Addr) (m q : Str) (st : Stmt) (f : Addr) (fd : FuncData) : Prop where
  fn : Fun K m q st f fd
  me : Meth K C m f
theorem wm_mk {K : PySem.W.Frag} {C : Addr} {m q : Str} {st : Stmt} {f : Addr} {oc : Value} {od an : Option Addr} {osl : Array (Option Value)} {kV doc pm cdv ct : Value} (a : PySem.W.findIn K (.ref C) m = some (some (.ref f))) (i : PySem.W.isFn K (.ref f) = true) (l : K.lookup f = some ⟨oc, od, .func (PySem.W.fnOf m q (defArgs st) (defBody st) (defScope st) .none kV doc pm an cdv ct), osl⟩)
    (c : PySem.W.codeIn K cdv q = true) (k : PySem.W.keepIn K (.ref f) = true) : ∃ fd, Wm K C m q st f fd := ⟨_, fun_mk (st := st) l c k, ⟨a, i, k⟩⟩
theorem cst_mk {K : PySem.W.Frag} {n : Str} {v : V} {u : Value} (a : PySem.W.nsIn K mainGlobals n = some (some u)) (b : RelV v u) : ∃ u, PySem.W.nsIn K mainGlobals n = some (some u) ∧ RelV v u := ⟨u, a, b⟩
theorem tup_mk {K : PySem.W.Frag} {n : Str} {xs : List V} {a : Addr} {oc : Value} {od : Option Addr} {it : Array Value} {m : Nat} {osl : Array (Option Value)} (e : PySem.W.nsIn K mainGlobals n = some (some (.ref a))) (l : K.lookup a = some ⟨oc, od, .seq it m, osl⟩)
    (h1 : oc = .type "tuple") (h2 : it.size ≤ sizeLine) (h3 : Vals xs it.toList) : ∃ a, PySem.W.nsIn K mainGlobals n = some (some (.ref a)) ∧ ∀ H, SqT K H a xs := ⟨a, e, fun _ => .inr ⟨_, it, m, l, h1, rfl, h2, h3⟩⟩
theorem all_mk {l : PySem.W.OpenLaw} {w : World} {K : PySem.W.Frag} {h : Heap} {mg : Str → Option Value} {fa C CI CB : Addr} (X : K.In h) (G : h.Ns mainGlobals mg) (hfa : mg "law" = some (.ref fa))
    (aC : PySem.W.nsIn K mainGlobals "Reader" = some (some (.ref C))) (aI : PySem.W.nsIn K mainGlobals "InvalidText" = some (some (.ref CI))) (pg : PySem.W.plainGet K C Str.empty = true) (hd : PySem.W.hasDictIn K C = true) (po : PySem.W.plainOver K C = true) (sa : PySem.W.findIn K (.ref C) "__setattr__" = some (some (.builtin "object.__setattr__"))) (mk : PySem.W.makesIn K C = true) (kc : PySem.W.keepIn K (.ref C) = true) (nT : PySem.W.findIn K (.ref C) "text" = some none) (nA : PySem.W.findIn K (.ref C) "at" = some none) (xI : PySem.W.excIn K CI vErr "ValueError.__new__" = true) (kI : PySem.W.keepIn K (.ref CI) = true) (bI : PySem.W.subIn K (.ref CI) (.type "BaseException") = some true) (tI : PySem.W.typeIn K (.ref CI) = some (.type "type")) (aB : PySem.W.nsIn K mainGlobals "BoundError" = some (some (.ref CB))) (eg : PySem.W.findIn K (.ref CI) "__getattribute__" = some (some (.builtin "BaseException.__getattribute__"))) (ek : PySem.W.findIn K (.ref CI) "__getattr__" = some none) (ed : PySem.W.hasDictIn K CI = true) (ea : PySem.W.findIn K (.ref CI) "__class__" = some (some (.builtin "object.__class__"))) (en : PySem.W.specialIn K (.builtin "object.__class__") "__get__" = some (some (.builtin "getset_descriptor.__get__"))) (et : PySem.W.takesIn K (.builtin "object.__class__") = some true) (em : PySem.W.mroIn K CI (.type "object") = some true) (bB : PySem.W.subIn K (.ref CB) (.type "BaseException") = some true) (dB : PySem.W.hasDictIn K CB = true) (tB : PySem.W.typeIn K (.ref CB) = some (.type "type")) (iB : PySem.W.subIn K (.ref CI) (.ref CB) = some true) (iV : PySem.W.subIn K (.ref CI) (.type "ValueError") = some true)
    (w_tupOf : ∃ f fd, Wr K "is_tuple_of" sTupOf f fd) (w_diff : ∃ f fd, Wr K "are_different" sDiff f fd) (w_name : ∃ f fd, Wr K "is_name" sName f fd) (w_value : ∃ f fd, Wr K "is_value" sValue f fd) (w_values : ∃ f fd, Wr K "is_values" sValues f fd) (w_asc : ∃ f fd, Wr K "are_ascending" sAsc f fd) (w_nn : ∃ f fd, Wr K "is_name_or_none" sNN f fd) (w_column : ∃ f fd, Wr K "is_column" sColumn f fd) (w_call : ∃ f fd, Wr K "is_call" sCall f fd) (w_told : ∃ f fd, Wr K "is_told" sTold f fd) (w_source : ∃ f fd, Wr K "is_source" sSource f fd) (w_cond : ∃ f fd, Wr K "is_condition" sCond f fd) (w_stP : ∃ f fd, Wr K "is_statement" sStatementP f fd) (w_pen : ∃ f fd, Wr K "_law_pen" sPen f fd) (w_next : ∃ f fd, Wr K "_law_next" sNext f fd) (w_draw : ∃ f fd, Wr K "_law_draw" sDraw f fd) (w_found : ∃ f fd, Wr K "_law_found" sFound f fd) (w_wrong : ∃ f fd, Wr K "_law_wrong" sWrong f fd) (w_fine : ∃ f fd, Wr K "_law_fine" sFine f fd) (w_law : ∃ f fd, Wr K "law" sLaw f fd) (w_wDot : ∃ f fd, Wr K "dotted" K13W.sDotted f fd) (w_wQuo : ∃ f fd, Wr K "quoted" K13W.sQuoted f fd) (w_wVals : ∃ f fd, Wr K "text_of_values" K13W.sValues f fd) (w_wTerm : ∃ f fd, Wr K "text_of_term" K13W.sTerm f fd) (w_wTold : ∃ f fd, Wr K "text_of_told" K13W.sTold f fd) (w_wSrc : ∃ f fd, Wr K "text_of_source" K13W.sSource f fd) (w_wCond : ∃ f fd, Wr K "text_of_condition" K13W.sCond f fd) (w_wWrite : ∃ f fd, Wr K "write" K13W.sWrite f fd) (w_read : ∃ f fd, Wr K "read" K13R.sRead f fd) (w_tSt : ∃ f fd, Wr K "take_statement" K13R.sTakeSt f fd) (w_tList : ∃ f fd, Wr K "take_list" K13R.sTakeList f fd) (w_tTold : ∃ f fd, Wr K "take_told" K13R.sTakeTold f fd) (w_tTerm : ∃ f fd, Wr K "take_term" K13R.sTakeTerm f fd) (w_tDot : ∃ f fd, Wr K "take_dotted" K13R.sTakeDot f fd) (w_tSrc : ∃ f fd, Wr K "take_source" K13R.sTakeSrc f fd) (w_tCond : ∃ f fd, Wr K "take_condition" K13R.sTakeCond f fd) (w_tVal : ∃ f fd, Wr K "take_value" K13R.sTakeVal f fd)
    (w_mInit : ∃ f fd, Wm K C "__init__" "Reader.__init__" K13R.sRInit f fd) (w_mSees : ∃ f fd, Wm K C "sees" "Reader.sees" K13R.sSees f fd) (w_mTakes : ∃ f fd, Wm K C "takes" "Reader.takes" K13R.sTakes f fd) (w_mMust : ∃ f fd, Wm K C "must_take" "Reader.must_take" K13R.sMust f fd) (w_mWord : ∃ f fd, Wm K C "take_word" "Reader.take_word" K13R.sWord f fd) (w_mName : ∃ f fd, Wm K C "take_name" "Reader.take_name" K13R.sRName f fd) (w_mVal : ∃ f fd, Wm K C "take_value" "Reader.take_value" K13R.sRVal f fd) (w_mEnd : ∃ f fd, Wm K C "must_end" "Reader.must_end" K13R.sEnd f fd)
    (z_len : PySem.W.nsIn K mainGlobals "len" = some none) (z_isinstance : PySem.W.nsIn K mainGlobals "isinstance" = some none) (z_str : PySem.W.nsIn K mainGlobals "str" = some none) (z_tuple : PySem.W.nsIn K mainGlobals "tuple" = some none) (z_all : PySem.W.nsIn K mainGlobals "all" = some none) (z_set : PySem.W.nsIn K mainGlobals "set" = some none) (z_sorted : PySem.W.nsIn K mainGlobals "sorted" = some none) (z_bool : PySem.W.nsIn K mainGlobals "bool" = some none) (z_any : PySem.W.nsIn K mainGlobals "any" = some none) (z_repr : PySem.W.nsIn K mainGlobals "repr" = some none) (z_list : PySem.W.nsIn K mainGlobals "list" = some none) (z_range : PySem.W.nsIn K mainGlobals "range" = some none) (z_int : PySem.W.nsIn K mainGlobals "int" = some none) (z_ValueError : PySem.W.nsIn K mainGlobals "ValueError" = some none)
    (k_letters : ∃ u, PySem.W.nsIn K mainGlobals "LETTERS" = some (some u) ∧ RelV (.str letters) u) (k_most : ∃ u, PySem.W.nsIn K mainGlobals "MOST_LETTERS" = some (some u) ∧ RelV (.int 8) u) (k_mostV : ∃ u, PySem.W.nsIn K mainGlobals "MOST_VALUES" = some (some u) ∧ RelV (.int 8) u) (k_mSources : ∃ u, PySem.W.nsIn K mainGlobals "MOST_SOURCES" = some (some u) ∧ RelV (.int 4) u) (k_mTold : ∃ u, PySem.W.nsIn K mainGlobals "MOST_TOLD" = some (some u) ∧ RelV (.int 8) u) (k_mCond : ∃ u, PySem.W.nsIn K mainGlobals "MOST_CONDITIONS" = some (some u) ∧ RelV (.int 8) u) (k_mTerms : ∃ u, PySem.W.nsIn K mainGlobals "MOST_TERMS" = some (some u) ∧ RelV (.int 2) u) (k_deepest : ∃ u, PySem.W.nsIn K mainGlobals "DEEPEST_CALL" = some (some u) ∧ RelV (.int 3) u) (k_resv : ∃ a, PySem.W.nsIn K mainGlobals "RESERVED" = some (some (.ref a)) ∧ KSt w K a resv) :
    ∃ fd : FuncData, (∀ (s : Shared) (v : Value), BindsTo s fd ⟨[v], []⟩ [("_law_script", v)]) ∧ ∀ base : Heap, K.In base → base.Ns mainGlobals mg → FnG l.prog w K mg base 15 fa fd ["_law_script"] (spLaw K) := by
  obtain ⟨f_tupOf, d_tupOf, W_tupOf⟩ := w_tupOf
  obtain ⟨f_diff, d_diff, W_diff⟩ := w_diff
  obtain ⟨f_name, d_name, W_name⟩ := w_name
  obtain ⟨f_value, d_value, W_value⟩ := w_value
  obtain ⟨f_values, d_values, W_values⟩ := w_values
  obtain ⟨f_asc, d_asc, W_asc⟩ := w_asc
  obtain ⟨f_nn, d_nn, W_nn⟩ := w_nn
  obtain ⟨f_column, d_column, W_column⟩ := w_column
  obtain ⟨f_call, d_call, W_call⟩ := w_call
  obtain ⟨f_told, d_told, W_told⟩ := w_told
  obtain ⟨f_source, d_source, W_source⟩ := w_source
  obtain ⟨f_cond, d_cond, W_cond⟩ := w_cond
  obtain ⟨f_stP, d_stP, W_stP⟩ := w_stP
  obtain ⟨f_pen, d_pen, W_pen⟩ := w_pen
  obtain ⟨f_next, d_next, W_next⟩ := w_next
  obtain ⟨f_draw, d_draw, W_draw⟩ := w_draw
  obtain ⟨f_found, d_found, W_found⟩ := w_found
  obtain ⟨f_wrong, d_wrong, W_wrong⟩ := w_wrong
  obtain ⟨f_fine, d_fine, W_fine⟩ := w_fine
  obtain ⟨f_law, d_law, W_law⟩ := w_law
  obtain ⟨f_wDot, d_wDot, W_wDot⟩ := w_wDot
  obtain ⟨f_wQuo, d_wQuo, W_wQuo⟩ := w_wQuo
  obtain ⟨f_wVals, d_wVals, W_wVals⟩ := w_wVals
  obtain ⟨f_wTerm, d_wTerm, W_wTerm⟩ := w_wTerm
  obtain ⟨f_wTold, d_wTold, W_wTold⟩ := w_wTold
  obtain ⟨f_wSrc, d_wSrc, W_wSrc⟩ := w_wSrc
  obtain ⟨f_wCond, d_wCond, W_wCond⟩ := w_wCond
  obtain ⟨f_wWrite, d_wWrite, W_wWrite⟩ := w_wWrite
  obtain ⟨f_read, d_read, W_read⟩ := w_read
  obtain ⟨f_tSt, d_tSt, W_tSt⟩ := w_tSt
  obtain ⟨f_tList, d_tList, W_tList⟩ := w_tList
  obtain ⟨f_tTold, d_tTold, W_tTold⟩ := w_tTold
  obtain ⟨f_tTerm, d_tTerm, W_tTerm⟩ := w_tTerm
  obtain ⟨f_tDot, d_tDot, W_tDot⟩ := w_tDot
  obtain ⟨f_tSrc, d_tSrc, W_tSrc⟩ := w_tSrc
  obtain ⟨f_tCond, d_tCond, W_tCond⟩ := w_tCond
  obtain ⟨f_tVal, d_tVal, W_tVal⟩ := w_tVal
  obtain ⟨f_mInit, d_mInit, W_mInit⟩ := w_mInit
  obtain ⟨f_mSees, d_mSees, W_mSees⟩ := w_mSees
  obtain ⟨f_mTakes, d_mTakes, W_mTakes⟩ := w_mTakes
  obtain ⟨f_mMust, d_mMust, W_mMust⟩ := w_mMust
  obtain ⟨f_mWord, d_mWord, W_mWord⟩ := w_mWord
  obtain ⟨f_mName, d_mName, W_mName⟩ := w_mName
  obtain ⟨f_mVal, d_mVal, W_mVal⟩ := w_mVal
  obtain ⟨f_mEnd, d_mEnd, W_mEnd⟩ := w_mEnd
  have e := hfa.symm.trans (W_law.mg X G)
  cases e
  obtain ⟨u_l, c_l, t_l, e_l⟩ := k_letters
  rw [e_l] at c_l
  obtain ⟨u_most, c_most, t_most, e_most⟩ := k_most
  rw [e_most] at c_most
  obtain ⟨u_mostV, c_mostV, t_mostV, e_mostV⟩ := k_mostV
  rw [e_mostV] at c_mostV
  obtain ⟨u_mSources, c_mSources, t_mSources, e_mSources⟩ := k_mSources
  rw [e_mSources] at c_mSources
  obtain ⟨u_mTold, c_mTold, t_mTold, e_mTold⟩ := k_mTold
  rw [e_mTold] at c_mTold
  obtain ⟨u_mCond, c_mCond, t_mCond, e_mCond⟩ := k_mCond
  rw [e_mCond] at c_mCond
  obtain ⟨u_mTerms, c_mTerms, t_mTerms, e_mTerms⟩ := k_mTerms
  rw [e_mTerms] at c_mTerms
  obtain ⟨u_deepest, c_deepest, t_deepest, e_deepest⟩ := k_deepest
  rw [e_deepest] at c_deepest
  obtain ⟨a4, c4, hR⟩ := k_resv
  have Gt : Bt w K mg := { len := PySem.W.mg_none_of X G z_len, isi := PySem.W.mg_none_of X G z_isinstance, str := PySem.W.mg_none_of X G z_str, tuple := PySem.W.mg_none_of X G z_tuple, all := PySem.W.mg_none_of X G z_all, set := PySem.W.mg_none_of X G z_set, sorted := PySem.W.mg_none_of X G z_sorted, bool := PySem.W.mg_none_of X G z_bool, any := PySem.W.mg_none_of X G z_any, repr := PySem.W.mg_none_of X G z_repr, list := PySem.W.mg_none_of X G z_list, range := PySem.W.mg_none_of X G z_range, most := ⟨t_most, PySem.W.mg_of X G c_most⟩, mostV := ⟨t_mostV, PySem.W.mg_of X G c_mostV⟩, mSources := ⟨t_mSources, PySem.W.mg_of X G c_mSources⟩, mTold := ⟨t_mTold, PySem.W.mg_of X G c_mTold⟩, mCond := ⟨t_mCond, PySem.W.mg_of X G c_mCond⟩, mTerms := ⟨t_mTerms, PySem.W.mg_of X G c_mTerms⟩, deepest := ⟨t_deepest, PySem.W.mg_of X G c_deepest⟩, resv := ⟨a4, PySem.W.mg_of X G c4, hR⟩ }
  have Gl : Bl mg := { list := PySem.W.mg_none_of X G z_list, len := PySem.W.mg_none_of X G z_len, int := PySem.W.mg_none_of X G z_int }
  have Ge : Be K mg CB CI := { gB := PySem.W.mg_of X G aB, gI := PySem.W.mg_of X G aI, gV := PySem.W.mg_none_of X G z_ValueError, isi := PySem.W.mg_none_of X G z_isinstance, xI := ⟨eg, ek, bI, ed, ea, en, et, em⟩, me := PySem.W.exm_ref bB dB tB iB, kv := kit_val iV }
  have Gw : K13W.Bm mg := { list := PySem.W.mg_none_of X G z_list, len := PySem.W.mg_none_of X G z_len, int := PySem.W.mg_none_of X G z_int, isi := PySem.W.mg_none_of X G z_isinstance, str := PySem.W.mg_none_of X G z_str }
  have Gr : K13R.Br K mg C CI := { cl := ⟨pg, hd, po, sa⟩, nT := nT, nA := nA, inv := ⟨PySem.W.mg_of X G aI, xI, kI, bI, tI⟩, len := PySem.W.mg_none_of X G z_len, isi := PySem.W.mg_none_of X G z_isinstance, str := PySem.W.mg_none_of X G z_str, tuple := PySem.W.mg_none_of X G z_tuple, letters := ⟨t_l, PySem.W.mg_of X G c_l⟩, most := ⟨t_most, PySem.W.mg_of X G c_most⟩, mostV := ⟨t_mostV, PySem.W.mg_of X G c_mostV⟩, mSources := ⟨t_mSources, PySem.W.mg_of X G c_mSources⟩, mTold := ⟨t_mTold, PySem.W.mg_of X G c_mTold⟩, mCond := ⟨t_mCond, PySem.W.mg_of X G c_mCond⟩, mTerms := ⟨t_mTerms, PySem.W.mg_of X G c_mTerms⟩, deepest := ⟨t_deepest, PySem.W.mg_of X G c_deepest⟩ }
  have Gs : Bs w K mg := Gt.toBs
  have Gf : Bf w K mg := Gs.toBf
  have b_tupOf := W_tupOf.fn.binds (ps := ["thing", "least", "most", "is_part"]) fun _ _ _ _ _ _ us hl => match us, hl with | [_, _, _, _], _ => rfl
  have b_diff := W_diff.fn.binds (ps := ["things"]) fun _ _ _ _ _ _ us hl => match us, hl with | [_], _ => rfl
  have b_name := W_name.fn.binds (ps := ["thing"]) fun _ _ _ _ _ _ us hl => match us, hl with | [_], _ => rfl
  have b_value := W_value.fn.binds (ps := ["thing"]) fun _ _ _ _ _ _ us hl => match us, hl with | [_], _ => rfl
  have b_values := W_values.fn.binds (ps := ["thing"]) fun _ _ _ _ _ _ us hl => match us, hl with | [_], _ => rfl
  have b_asc := W_asc.fn.binds (ps := ["values"]) fun _ _ _ _ _ _ us hl => match us, hl with | [_], _ => rfl
  have b_nn := W_nn.fn.binds (ps := ["thing"]) fun _ _ _ _ _ _ us hl => match us, hl with | [_], _ => rfl
  have b_column := W_column.fn.binds (ps := ["thing"]) fun _ _ _ _ _ _ us hl => match us, hl with | [_], _ => rfl
  have b_call := W_call.fn.binds (ps := ["thing", "deepest"]) fun _ _ _ _ _ _ us hl => match us, hl with | [_, _], _ => rfl
  have b_told := W_told.fn.binds (ps := ["thing"]) fun _ _ _ _ _ _ us hl => match us, hl with | [_], _ => rfl
  have b_source := W_source.fn.binds (ps := ["thing"]) fun _ _ _ _ _ _ us hl => match us, hl with | [_], _ => rfl
  have b_cond := W_cond.fn.binds (ps := ["thing"]) fun _ _ _ _ _ _ us hl => match us, hl with | [_], _ => rfl
  have b_stP := W_stP.fn.binds (ps := ["thing"]) fun _ _ _ _ _ _ us hl => match us, hl with | [_], _ => rfl
  have b_pen := W_pen.fn.binds (ps := ["_law_script"]) fun _ _ _ _ _ _ us hl => match us, hl with | [_], _ => rfl
  have b_next := W_next.fn.binds (ps := ["_law_pen_here"]) fun _ _ _ _ _ _ us hl => match us, hl with | [_], _ => rfl
  have b_draw := W_draw.fn.binds (ps := ["_law_pen_here", "_law_under"]) fun _ _ _ _ _ _ us hl => match us, hl with | [_, _], _ => rfl
  have b_found := W_found.fn.binds (ps := ["_law_thing_here"]) fun _ _ _ _ _ _ us hl => match us, hl with | [_], _ => rfl
  have b_wrong := W_wrong.fn.binds (ps := []) fun _ _ _ _ _ _ us hl => match us, hl with | [], _ => rfl
  have b_fine := W_fine.fn.binds (ps := []) fun _ _ _ _ _ _ us hl => match us, hl with | [], _ => rfl
  have b_law := W_law.fn.binds (ps := ["_law_script"]) fun _ _ _ _ _ _ us hl => match us, hl with | [_], _ => rfl
  have b_wDot := W_wDot.fn.binds (ps := ["first", "name"]) fun _ _ _ _ _ _ us hl => match us, hl with | [_, _], _ => rfl
  have b_wQuo := W_wQuo.fn.binds (ps := ["word"]) fun _ _ _ _ _ _ us hl => match us, hl with | [_], _ => rfl
  have b_wVals := W_wVals.fn.binds (ps := ["values"]) fun _ _ _ _ _ _ us hl => match us, hl with | [_], _ => rfl
  have b_wTerm := W_wTerm.fn.binds (ps := ["term"]) fun _ _ _ _ _ _ us hl => match us, hl with | [_], _ => rfl
  have b_wTold := W_wTold.fn.binds (ps := ["item"]) fun _ _ _ _ _ _ us hl => match us, hl with | [_], _ => rfl
  have b_wSrc := W_wSrc.fn.binds (ps := ["source"]) fun _ _ _ _ _ _ us hl => match us, hl with | [_], _ => rfl
  have b_wCond := W_wCond.fn.binds (ps := ["condition"]) fun _ _ _ _ _ _ us hl => match us, hl with | [_], _ => rfl
  have b_wWrite := W_wWrite.fn.binds (ps := ["statement"]) fun _ _ _ _ _ _ us hl => match us, hl with | [_], _ => rfl
  have b_read := W_read.fn.binds (ps := ["text"]) fun _ _ _ _ _ _ us hl => match us, hl with | [_], _ => rfl
  have b_tSt := W_tSt.fn.binds (ps := ["reader"]) fun _ _ _ _ _ _ us hl => match us, hl with | [_], _ => rfl
  have b_tList := W_tList.fn.binds (ps := ["reader", "take_one", "sign", "most"]) fun _ _ _ _ _ _ us hl => match us, hl with | [_, _, _, _], _ => rfl
  have b_tTold := W_tTold.fn.binds (ps := ["reader"]) fun _ _ _ _ _ _ us hl => match us, hl with | [_], _ => rfl
  have b_tTerm := W_tTerm.fn.binds (ps := ["reader", "deepest"]) fun _ _ _ _ _ _ us hl => match us, hl with | [_, _], _ => rfl
  have b_tDot := W_tDot.fn.binds (ps := ["reader"]) fun _ _ _ _ _ _ us hl => match us, hl with | [_], _ => rfl
  have b_tSrc := W_tSrc.fn.binds (ps := ["reader"]) fun _ _ _ _ _ _ us hl => match us, hl with | [_], _ => rfl
  have b_tCond := W_tCond.fn.binds (ps := ["reader"]) fun _ _ _ _ _ _ us hl => match us, hl with | [_], _ => rfl
  have b_tVal := W_tVal.fn.binds (ps := ["reader"]) fun _ _ _ _ _ _ us hl => match us, hl with | [_], _ => rfl
  have b_mInit := W_mInit.fn.binds (ps := ["self", "text"]) fun _ _ _ _ _ _ us hl => match us, hl with | [_, _], _ => rfl
  have b_mSees := W_mSees.fn.binds (ps := ["self", "sign"]) fun _ _ _ _ _ _ us hl => match us, hl with | [_, _], _ => rfl
  have b_mTakes := W_mTakes.fn.binds (ps := ["self", "sign"]) fun _ _ _ _ _ _ us hl => match us, hl with | [_, _], _ => rfl
  have b_mMust := W_mMust.fn.binds (ps := ["self", "sign"]) fun _ _ _ _ _ _ us hl => match us, hl with | [_, _], _ => rfl
  have b_mWord := W_mWord.fn.binds (ps := ["self"]) fun _ _ _ _ _ _ us hl => match us, hl with | [_], _ => rfl
  have b_mName := W_mName.fn.binds (ps := ["self"]) fun _ _ _ _ _ _ us hl => match us, hl with | [_], _ => rfl
  have b_mVal := W_mVal.fn.binds (ps := ["self"]) fun _ _ _ _ _ _ us hl => match us, hl with | [_], _ => rfl
  have b_mEnd := W_mEnd.fn.binds (ps := ["self"]) fun _ _ _ _ _ _ us hl => match us, hl with | [_], _ => rfl
  obtain ⟨oc, od, kV, doc, pm, an, cdv, ct, osl, ed, _, _⟩ := W_law.fn.ex
  refine ⟨d_law, fun s v => by rw [ed]; exact .of_eq rfl, fun base _ _ => ?_⟩
  have c_next : CalN l.prog w K mg base 1 "_law_next" spNext := ⟨f_next, d_next, _, ok_next W_next.fn Gl, W_next.mg X G, W_next.fn.kp, b_next⟩
  have c_draw : CalN l.prog w K mg base 2 "_law_draw" spDraw := ⟨f_draw, d_draw, _, ok_draw W_draw.fn Gl c_next, W_draw.mg X G, W_draw.fn.kp, b_draw⟩
  have c_pen : CalN l.prog w K mg base 1 "_law_pen" (spPen K) := ⟨f_pen, d_pen, _, ok_pen W_pen.fn Gl, W_pen.mg X G, W_pen.fn.kp, b_pen⟩
  have c_tupOf : CalN l.prog w K mg base 2 "is_tuple_of" (spTO l.prog w K mg base 1) := ⟨f_tupOf, d_tupOf, _, ok_tupOf W_tupOf.fn Gf, W_tupOf.mg X G, W_tupOf.fn.kp, b_tupOf⟩
  have c_tupOf9 : CalN l.prog w K mg base 10 "is_tuple_of" (spTO l.prog w K mg base 9) := ⟨f_tupOf, d_tupOf, _, ok_tupOf W_tupOf.fn Gf, W_tupOf.mg X G, W_tupOf.fn.kp, b_tupOf⟩
  have c_diff : CalN l.prog w K mg base 1 "are_different" (spDiff K) := ⟨f_diff, d_diff, _, ok_diff W_diff.fn Gf, W_diff.mg X G, W_diff.fn.kp, b_diff⟩
  have c_value : CalN l.prog w K mg base 1 "is_value" (spB valD) := ⟨f_value, d_value, _, ok_value W_value.fn Gf, W_value.mg X G, W_value.fn.kp, b_value⟩
  have c_asc : CalN l.prog w K mg base 1 "are_ascending" (spD FAsc) := ⟨f_asc, d_asc, _, ok_asc W_asc.fn, W_asc.mg X G, W_asc.fn.kp, b_asc⟩
  have c_name : CalN l.prog w K mg base 2 "is_name" (spB namD) := ⟨f_name, d_name, _, ok_name W_name.fn Gf, W_name.mg X G, W_name.fn.kp, b_name⟩
  have c_values : CalN l.prog w K mg base 3 "is_values" (spB valsD) := ⟨f_values, d_values, _, ok_values W_values.fn Gf c_value c_tupOf c_asc, W_values.mg X G, W_values.fn.kp, b_values⟩
  have c_nn : CalN l.prog w K mg base 3 "is_name_or_none" (spB nnD) := ⟨f_nn, d_nn, _, ok_nn W_nn.fn Gs c_name, W_nn.mg X G, W_nn.fn.kp, b_nn⟩
  have c_column : CalN l.prog w K mg base 4 "is_column" (spB colD) := ⟨f_column, d_column, _, ok_column W_column.fn Gs c_name, W_column.mg X G, W_column.fn.kp, b_column⟩
  have c_call : CalN l.prog w K mg base 8 "is_call" (spD (FC 3)) := ⟨f_call, d_call, _, ok_call W_call.fn b_call (W_call.mg X G) Gs c_value c_name c_nn c_column 3, W_call.mg X G, W_call.fn.kp, b_call⟩
  have c_told : CalN l.prog w K mg base 9 "is_told" (spB toldD) := ⟨f_told, d_told, _, ok_told W_told.fn Gs c_value c_name c_column c_call, W_told.mg X G, W_told.fn.kp, b_told⟩
  have c_source9 : CalN l.prog w K mg base 9 "is_source" (spB srcD) := ⟨f_source, d_source, _, My.FnOk.up (ok_source W_source.fn Gs c_name) (by decide), W_source.mg X G, W_source.fn.kp, b_source⟩
  have c_cond9 : CalN l.prog w K mg base 9 "is_condition" (spB condD) := ⟨f_cond, d_cond, _, My.FnOk.up (ok_cond W_cond.fn Gs c_column c_values) (by decide), W_cond.mg X G, W_cond.fn.kp, b_cond⟩
  have c_stP : CalN l.prog w K mg base 11 "is_statement" (spB stD) := ⟨f_stP, d_stP, _, ok_statementP W_stP.fn Gs c_tupOf9 c_diff c_told c_source9 c_cond9, W_stP.mg X G, W_stP.fn.kp, b_stP⟩
  have c_wDot : CalN l.prog w K mg base 1 "dotted" K13W.spDot := ⟨f_wDot, d_wDot, _, K13W.ok_dotted W_wDot.fn, W_wDot.mg X G, W_wDot.fn.kp, b_wDot⟩
  have c_wQuo : CalN l.prog w K mg base 1 "quoted" K13W.spQuo := ⟨f_wQuo, d_wQuo, _, K13W.ok_quoted W_wQuo.fn, W_wQuo.mg X G, W_wQuo.fn.kp, b_wQuo⟩
  have c_wVals : CalN l.prog w K mg base 2 "text_of_values" K13W.spVals := ⟨f_wVals, d_wVals, _, K13W.ok_values W_wVals.fn c_wQuo, W_wVals.mg X G, W_wVals.fn.kp, b_wVals⟩
  have c_wTerm : CalN l.prog w K mg base 5 "text_of_term" (K13W.spT (K13W.okTm 3) (termT 3)) := ⟨f_wTerm, d_wTerm, _, K13W.ok_term W_wTerm.fn b_wTerm (W_wTerm.mg X G) Gw c_wDot c_wQuo 3 (by decide), W_wTerm.mg X G, W_wTerm.fn.kp, b_wTerm⟩
  have c_wTold : CalN l.prog w K mg base 6 "text_of_told" (K13W.spT K13W.okTold toldT) := ⟨f_wTold, d_wTold, _, K13W.ok_told W_wTold.fn c_wTerm, W_wTold.mg X G, W_wTold.fn.kp, b_wTold⟩
  have c_wSrc : CalN l.prog w K mg base 2 "text_of_source" (K13W.spT K13W.okSrc srcT) := ⟨f_wSrc, d_wSrc, _, K13W.ok_source W_wSrc.fn c_wDot, W_wSrc.mg X G, W_wSrc.fn.kp, b_wSrc⟩
  have c_wCond : CalN l.prog w K mg base 6 "text_of_condition" (K13W.spT K13W.okCond condT) := ⟨f_wCond, d_wCond, _, K13W.ok_cond W_wCond.fn c_wTerm c_wVals, W_wCond.mg X G, W_wCond.fn.kp, b_wCond⟩
  have c_wr : CalN l.prog w K mg base 7 "write" K13R.spWr := ⟨f_wWrite, d_wWrite, _, (K13W.ok_write W_wWrite.fn c_wTold c_wSrc c_wCond).imp (fun vs H Q E h => by obtain ⟨v, d, e, g, hs, q⟩ := h; exact ⟨v, d, e, g, K13W.okSt_of hs, q⟩), W_wWrite.mg X G, W_wWrite.fn.kp, b_wWrite⟩
  have c_mSees : MetN l.prog w K mg base CX0 1 C "sees" (K13R.spSees C) := ⟨f_mSees, d_mSees, _, K13R.ok_sees W_mSees.fn Gr, W_mSees.me, b_mSees⟩
  have c_mTakes : MetN l.prog w K mg base CX0 2 C "takes" (K13R.spTakes C) := ⟨f_mTakes, d_mTakes, _, K13R.ok_takes W_mTakes.fn Gr c_mSees, W_mTakes.me, b_mTakes⟩
  have c_mMust : MetN l.prog w K mg base (L2.CX l.prog w) 3 C "must_take" (K13R.spMust C CI) := ⟨f_mMust, d_mMust, _, K13R.ok_must W_mMust.fn Gr c_mTakes, W_mMust.me, b_mMust⟩
  have c_mWord : MetN l.prog w K mg base CX0 1 C "take_word" (K13R.spWord C) := ⟨f_mWord, d_mWord, _, K13R.ok_word W_mWord.fn Gr, W_mWord.me, b_mWord⟩
  have c_mName : MetN l.prog w K mg base (L2.CX l.prog w) 3 C "take_name" (K13R.spP C CI pName) := ⟨f_mName, d_mName, _, K13R.ok_rname W_mName.fn Gr c_mWord c_name, W_mName.me, b_mName⟩
  have c_mVal : MetN l.prog w K mg base (L2.CX l.prog w) 4 C "take_value" (K13R.spP C CI pVal) := ⟨f_mVal, d_mVal, _, K13R.ok_rval W_mVal.fn Gr c_mMust c_mWord c_value, W_mVal.me, b_mVal⟩
  have c_mEnd : MetN l.prog w K mg base (L2.CX l.prog w) 1 C "must_end" (K13R.spEnd C CI) := ⟨f_mEnd, d_mEnd, _, K13R.ok_end W_mEnd.fn Gr, W_mEnd.me, b_mEnd⟩
  have c_mInit : MakN l.prog w K mg base (L2.CX l.prog w) 1 "Reader" C (K13R.spMk C CI) := ⟨f_mInit, d_mInit, _, K13R.ok_rinit W_mInit.fn Gr, ⟨mk, W_mInit.me.at_, W_mInit.me.fn, kc⟩, PySem.W.mg_of X G aC, b_mInit⟩
  have c_tDot : CalX l.prog w K mg base 4 "take_dotted" (K13R.spDt C CI) := ⟨f_tDot, d_tDot, _, K13R.ok_tdot W_tDot.fn Gr c_mName c_mTakes, W_tDot.mg X G, W_tDot.fn.kp, b_tDot⟩
  have a_tVal : AtX l.prog w K mg base 5 f_tVal (K13R.spP C CI pVal) := ⟨d_tVal, _, K13R.ok_tval W_tVal.fn Gr c_mVal, W_tVal.fn.kp, b_tVal⟩
  have c_tList5 : CalX l.prog w K mg base 6 "take_list" (K13R.spList l.prog w K mg base 5 C CI) := ⟨f_tList, d_tList, _, K13R.ok_tlist W_tList.fn Gr c_mTakes (by decide), W_tList.mg X G, W_tList.fn.kp, b_tList⟩
  have c_tList9 : CalX l.prog w K mg base 10 "take_list" (K13R.spList l.prog w K mg base 9 C CI) := ⟨f_tList, d_tList, _, K13R.ok_tlist W_tList.fn Gr c_mTakes (by decide), W_tList.mg X G, W_tList.fn.kp, b_tList⟩
  have a_tSrc : AtX l.prog w K mg base 9 f_tSrc (K13R.spP C CI pSource) := ⟨d_tSrc, _, (K13R.ok_tsrc W_tSrc.fn Gr c_mSees c_mName c_mTakes c_tDot).mono (by decide), W_tSrc.fn.kp, b_tSrc⟩
  have a_tCond : AtX l.prog w K mg base 9 f_tCond (K13R.spP C CI pCond) := ⟨d_tCond, _, (K13R.ok_tcond (k := 5) W_tCond.fn Gr c_mTakes c_mMust c_tDot (W_tVal.mg X G) a_tVal c_tList5 (by decide)).mono (by decide), W_tCond.fn.kp, b_tCond⟩
  have c_tTerm : CalX l.prog w K mg base 8 "take_term" (K13R.spTm C CI 3) := ⟨f_tTerm, d_tTerm, _, K13R.ok_tterm W_tTerm.fn b_tTerm (W_tTerm.mg X G) Gr c_mSees c_mTakes c_mMust c_mVal c_tDot 3, W_tTerm.mg X G, W_tTerm.fn.kp, b_tTerm⟩
  have a_tTold : AtX l.prog w K mg base 9 f_tTold (K13R.spP C CI pTold) := ⟨d_tTold, _, K13R.ok_ttold W_tTold.fn Gr c_mSees c_mName c_mTakes c_mMust c_tTerm c_column, W_tTold.fn.kp, b_tTold⟩
  have c_tSt : CalX l.prog w K mg base 12 "take_statement" (K13R.spP C CI pStmtC) := ⟨f_tSt, d_tSt, _, K13R.ok_tstmt W_tSt.fn Gr c_mTakes c_mMust (W_tTold.mg X G) a_tTold (W_tSrc.mg X G) a_tSrc (W_tCond.mg X G) a_tCond c_tList9 c_stP c_wr, W_tSt.mg X G, W_tSt.fn.kp, b_tSt⟩
  have c_wrong : CalN l.prog w K mg base 1 "_law_wrong" spWrong := ⟨f_wrong, d_wrong, _, ok_wrong W_wrong.fn Gt.list, W_wrong.mg X G, W_wrong.fn.kp, b_wrong⟩
  have c_fine : CalN l.prog w K mg base 1 "_law_fine" spFine := ⟨f_fine, d_fine, _, ok_fine W_fine.fn Gt, W_fine.mg X G, W_fine.fn.kp, b_fine⟩
  have c_read : CalX l.prog w K mg base 13 "read" (K13R.spRead CI) := ⟨f_read, d_read, _, K13R.ok_read W_read.fn Gr c_mInit c_tSt c_mEnd, W_read.mg X G, W_read.fn.kp, b_read⟩
  have c_found : CalN l.prog w K mg base 14 "_law_found" spFound := ⟨f_found, d_found, _, ok_found W_found.fn Ge c_read, W_found.mg X G, W_found.fn.kp, b_found⟩
  exact ok_law W_law.fn Gt c_pen c_draw c_wrong c_fine c_found c_wr
end K13

open PySem PySem.W PyProof.Rows
set_option maxRecDepth 100000 in
set_option maxHeartbeats 0 in
theorem PySem.Challenge.cw_boundonce_k13_texts_typed_holds : PySem.Challenge.rw_boundonce_k13_texts_typed.Holds := by
  w_on; o_law; k_head; (case hw => w_witness2)
  k_fill
  refine My.walk_G (l := PySem.Challenge.rw_boundonce_k13_texts_typed) (n := 63) (k := 15) (x := "_law_script") (sp := fun w => K13.spLaw _) rfl (by decide) rfl ⟨rfl, by decide, by decide⟩ (fun w h Y => PySem.W.kIn_of Y) ?F (fun w H a ns hl _ hS => ⟨a, ns, rfl, hS, hl, fun _ => rfl⟩)
  case F =>
    intro w mg fa h KX G hmg
    refine' K13.all_mk KX G hmg ?aC ?aI ?pg ?hd ?po ?sa ?mk ?kc ?nT ?nA ?xI ?kI ?bI ?tI ?aB ?eg ?ek ?ed ?ea ?en ?et ?em ?bB ?dB ?tB ?iB ?iV ?w_tupOf ?w_diff ?w_name ?w_value ?w_values ?w_asc ?w_nn ?w_column ?w_call ?w_told ?w_source ?w_cond ?w_stP ?w_pen ?w_next ?w_draw ?w_found ?w_wrong ?w_fine ?w_law ?w_wDot ?w_wQuo ?w_wVals ?w_wTerm ?w_wTold ?w_wSrc ?w_wCond ?w_wWrite ?w_read ?w_tSt ?w_tList ?w_tTold ?w_tTerm ?w_tDot ?w_tSrc ?w_tCond ?w_tVal ?w_mInit ?w_mSees ?w_mTakes ?w_mMust ?w_mWord ?w_mName ?w_mVal ?w_mEnd ?z_len ?z_isinstance ?z_str ?z_tuple ?z_all ?z_set ?z_sorted ?z_bool ?z_any ?z_repr ?z_list ?z_range ?z_int ?z_ValueError ?k_letters ?k_most ?k_mostV ?k_mSources ?k_mTold ?k_mCond ?k_mTerms ?k_deepest ?k_resv
    (case aC => k_is)
    (case aI => k_is)
    (case pg => k_is)
    (case hd => k_is)
    (case po => k_is)
    (case sa => k_is)
    (case mk => k_is)
    (case kc => k_is)
    (case nT => k_is)
    (case nA => k_is)
    (case xI => k_exc)
    (case kI => k_is)
    (case bI => k_is)
    (case tI => k_is)
    (case aB => k_is)
    (case eg => k_is)
    (case ek => k_is)
    (case ed => k_is)
    (case ea => k_is)
    (case en => k_is)
    (case et => k_is)
    (case em => k_is)
    (case bB => k_is)
    (case dB => k_is)
    (case tB => k_is)
    (case iB => k_is)
    (case iV => k_is)
    (case w_tupOf => refine' ⟨_, K13.wr_mk ?a ?l ?c ?k⟩; (case a => k_is); (case l => k_is); (case c => k_is); (case k => k_is))
    (case w_diff => refine' ⟨_, K13.wr_mk ?a ?l ?c ?k⟩; (case a => k_is); (case l => k_is); (case c => k_is); (case k => k_is))
    (case w_name => refine' ⟨_, K13.wr_mk ?a ?l ?c ?k⟩; (case a => k_is); (case l => k_is); (case c => k_is); (case k => k_is))
    (case w_value => refine' ⟨_, K13.wr_mk ?a ?l ?c ?k⟩; (case a => k_is); (case l => k_is); (case c => k_is); (case k => k_is))
    (case w_values => refine' ⟨_, K13.wr_mk ?a ?l ?c ?k⟩; (case a => k_is); (case l => k_is); (case c => k_is); (case k => k_is))
    (case w_asc => refine' ⟨_, K13.wr_mk ?a ?l ?c ?k⟩; (case a => k_is); (case l => k_is); (case c => k_is); (case k => k_is))
    (case w_nn => refine' ⟨_, K13.wr_mk ?a ?l ?c ?k⟩; (case a => k_is); (case l => k_is); (case c => k_is); (case k => k_is))
    (case w_column => refine' ⟨_, K13.wr_mk ?a ?l ?c ?k⟩; (case a => k_is); (case l => k_is); (case c => k_is); (case k => k_is))
    (case w_call => refine' ⟨_, K13.wr_mk ?a ?l ?c ?k⟩; (case a => k_is); (case l => k_is); (case c => k_is); (case k => k_is))
    (case w_told => refine' ⟨_, K13.wr_mk ?a ?l ?c ?k⟩; (case a => k_is); (case l => k_is); (case c => k_is); (case k => k_is))
    (case w_source => refine' ⟨_, K13.wr_mk ?a ?l ?c ?k⟩; (case a => k_is); (case l => k_is); (case c => k_is); (case k => k_is))
    (case w_cond => refine' ⟨_, K13.wr_mk ?a ?l ?c ?k⟩; (case a => k_is); (case l => k_is); (case c => k_is); (case k => k_is))
    (case w_stP => refine' ⟨_, K13.wr_mk ?a ?l ?c ?k⟩; (case a => k_is); (case l => k_is); (case c => k_is); (case k => k_is))
    (case w_pen => refine' ⟨_, K13.wr_mk ?a ?l ?c ?k⟩; (case a => k_is); (case l => k_is); (case c => k_is); (case k => k_is))
    (case w_next => refine' ⟨_, K13.wr_mk ?a ?l ?c ?k⟩; (case a => k_is); (case l => k_is); (case c => k_is); (case k => k_is))
    (case w_draw => refine' ⟨_, K13.wr_mk ?a ?l ?c ?k⟩; (case a => k_is); (case l => k_is); (case c => k_is); (case k => k_is))
    (case w_found => refine' ⟨_, K13.wr_mk ?a ?l ?c ?k⟩; (case a => k_is); (case l => k_is); (case c => k_is); (case k => k_is))
    (case w_wrong => refine' ⟨_, K13.wr_mk ?a ?l ?c ?k⟩; (case a => k_is); (case l => k_is); (case c => k_is); (case k => k_is))
    (case w_fine => refine' ⟨_, K13.wr_mk ?a ?l ?c ?k⟩; (case a => k_is); (case l => k_is); (case c => k_is); (case k => k_is))
    (case w_law => refine' ⟨_, K13.wr_mk ?a ?l ?c ?k⟩; (case a => k_is); (case l => k_is); (case c => k_is); (case k => k_is))
    (case w_wDot => refine' ⟨_, K13.wr_mk ?a ?l ?c ?k⟩; (case a => k_is); (case l => k_is); (case c => k_is); (case k => k_is))
    (case w_wQuo => refine' ⟨_, K13.wr_mk ?a ?l ?c ?k⟩; (case a => k_is); (case l => k_is); (case c => k_is); (case k => k_is))
    (case w_wVals => refine' ⟨_, K13.wr_mk ?a ?l ?c ?k⟩; (case a => k_is); (case l => k_is); (case c => k_is); (case k => k_is))
    (case w_wTerm => refine' ⟨_, K13.wr_mk ?a ?l ?c ?k⟩; (case a => k_is); (case l => k_is); (case c => k_is); (case k => k_is))
    (case w_wTold => refine' ⟨_, K13.wr_mk ?a ?l ?c ?k⟩; (case a => k_is); (case l => k_is); (case c => k_is); (case k => k_is))
    (case w_wSrc => refine' ⟨_, K13.wr_mk ?a ?l ?c ?k⟩; (case a => k_is); (case l => k_is); (case c => k_is); (case k => k_is))
    (case w_wCond => refine' ⟨_, K13.wr_mk ?a ?l ?c ?k⟩; (case a => k_is); (case l => k_is); (case c => k_is); (case k => k_is))
    (case w_wWrite => refine' ⟨_, K13.wr_mk ?a ?l ?c ?k⟩; (case a => k_is); (case l => k_is); (case c => k_is); (case k => k_is))
    (case w_read => refine' ⟨_, K13.wr_mk ?a ?l ?c ?k⟩; (case a => k_is); (case l => k_is); (case c => k_is); (case k => k_is))
    (case w_tSt => refine' ⟨_, K13.wr_mk ?a ?l ?c ?k⟩; (case a => k_is); (case l => k_is); (case c => k_is); (case k => k_is))
    (case w_tList => refine' ⟨_, K13.wr_mk ?a ?l ?c ?k⟩; (case a => k_is); (case l => k_is); (case c => k_is); (case k => k_is))
    (case w_tTold => refine' ⟨_, K13.wr_mk ?a ?l ?c ?k⟩; (case a => k_is); (case l => k_is); (case c => k_is); (case k => k_is))
    (case w_tTerm => refine' ⟨_, K13.wr_mk ?a ?l ?c ?k⟩; (case a => k_is); (case l => k_is); (case c => k_is); (case k => k_is))
    (case w_tDot => refine' ⟨_, K13.wr_mk ?a ?l ?c ?k⟩; (case a => k_is); (case l => k_is); (case c => k_is); (case k => k_is))
    (case w_tSrc => refine' ⟨_, K13.wr_mk ?a ?l ?c ?k⟩; (case a => k_is); (case l => k_is); (case c => k_is); (case k => k_is))
    (case w_tCond => refine' ⟨_, K13.wr_mk ?a ?l ?c ?k⟩; (case a => k_is); (case l => k_is); (case c => k_is); (case k => k_is))
    (case w_tVal => refine' ⟨_, K13.wr_mk ?a ?l ?c ?k⟩; (case a => k_is); (case l => k_is); (case c => k_is); (case k => k_is))
    (case w_mInit => refine' ⟨_, K13.wm_mk ?a ?i ?l ?c ?k⟩; (case a => k_is); (case i => k_is); (case l => k_is); (case c => k_is); (case k => k_is))
    (case w_mSees => refine' ⟨_, K13.wm_mk ?a ?i ?l ?c ?k⟩; (case a => k_is); (case i => k_is); (case l => k_is); (case c => k_is); (case k => k_is))
    (case w_mTakes => refine' ⟨_, K13.wm_mk ?a ?i ?l ?c ?k⟩; (case a => k_is); (case i => k_is); (case l => k_is); (case c => k_is); (case k => k_is))
    (case w_mMust => refine' ⟨_, K13.wm_mk ?a ?i ?l ?c ?k⟩; (case a => k_is); (case i => k_is); (case l => k_is); (case c => k_is); (case k => k_is))
    (case w_mWord => refine' ⟨_, K13.wm_mk ?a ?i ?l ?c ?k⟩; (case a => k_is); (case i => k_is); (case l => k_is); (case c => k_is); (case k => k_is))
    (case w_mName => refine' ⟨_, K13.wm_mk ?a ?i ?l ?c ?k⟩; (case a => k_is); (case i => k_is); (case l => k_is); (case c => k_is); (case k => k_is))
    (case w_mVal => refine' ⟨_, K13.wm_mk ?a ?i ?l ?c ?k⟩; (case a => k_is); (case i => k_is); (case l => k_is); (case c => k_is); (case k => k_is))
    (case w_mEnd => refine' ⟨_, K13.wm_mk ?a ?i ?l ?c ?k⟩; (case a => k_is); (case i => k_is); (case l => k_is); (case c => k_is); (case k => k_is))
    (case z_len => k_is)
    (case z_isinstance => k_is)
    (case z_str => k_is)
    (case z_tuple => k_is)
    (case z_all => k_is)
    (case z_set => k_is)
    (case z_sorted => k_is)
    (case z_bool => k_is)
    (case z_any => k_is)
    (case z_repr => k_is)
    (case z_list => k_is)
    (case z_range => k_is)
    (case z_int => k_is)
    (case z_ValueError => k_is)
    (case k_letters => refine' K13.cst_mk ?a ?b; (case a => k_is); (case b => exact ⟨_, rfl⟩))
    (case k_most => refine' K13.cst_mk ?a ?b; (case a => k_is); (case b => exact ⟨_, rfl⟩))
    (case k_mostV => refine' K13.cst_mk ?a ?b; (case a => k_is); (case b => exact ⟨_, rfl⟩))
    (case k_mSources => refine' K13.cst_mk ?a ?b; (case a => k_is); (case b => exact ⟨_, rfl⟩))
    (case k_mTold => refine' K13.cst_mk ?a ?b; (case a => k_is); (case b => exact ⟨_, rfl⟩))
    (case k_mCond => refine' K13.cst_mk ?a ?b; (case a => k_is); (case b => exact ⟨_, rfl⟩))
    (case k_mTerms => refine' K13.cst_mk ?a ?b; (case a => k_is); (case b => exact ⟨_, rfl⟩))
    (case k_deepest => refine' K13.cst_mk ?a ?b; (case a => k_is); (case b => exact ⟨_, rfl⟩))
    (case k_resv => refine' My.dic_mk ?a ?l ?t ?d ?o ?k ?w ?z; (case a => k_is); (case l => k_is); (case t => rfl); (case d => rfl); (case o => rfl); (case k => (repeat (refine ⟨⟨_, _, rfl, rfl⟩, ?_⟩)); exact trivial); (case w => decide); (case z => rfl))
