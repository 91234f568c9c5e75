import PyProof.Rows.All
import Wide.All
import OpenK.AllK
import Wide.FinOn
import HandS.Comp
import HandS.Ends
import HandS.Text
import HandS.Words
import PyProof.ReprRoads
import HandS.Iter
import HandS.IsInst
import HandS.CallLocal
import HandS.ForMost
import PyProof.StrBlock2
import PyProof.StrLawsRepr
import HandS.Dict
import PyProof.RowDictHeap
import PyProof.EqKinds
import PyProof.NeKinds
import PyProof.NeData
import HandS.Strs
import PyProof.Rows.SortStr
import HandS.SetFor
import HandS.TupAny
import PyProof.Rows.StrMeet
import HandS.Deep
import HandS.StrMore
import HandS.TupMul
import HandS.WordsExc
import HandS.ExcIs
import PyProof.ListStr
import PyProof.ListMulAny
import PyProof.Rows.ListMulArg
import HandS.Zip
import HandS.RaiseMore
import HandS.TryOnly
import PySem.Challenge.RW_boundonce_k86_texts_of_entries
set_option Elab.async false
set_option linter.all false
set_option maxRecDepth 100000
set_option maxHeartbeats 4000000

/-! My own layer over the hand layer: what is wanted of an expression, a test, a statement, forward. -/
namespace My
open PySem PySem.Spec PyProof.Rows L2
section
variable {X : Cx}
structure WE (X : Cx) (e : Expr) (σ : L2.St) (H : Hp) (Q : VK) : Prop where
  go : ∀ (pins : List (Addr × Obj)) (s : Shared), Inv X pins σ H s →
  wpAny (model X.prog X.w) X.A (eval e X.env) (EP X pins σ Q) X.xe s
structure WT (X : Cx) (e : Expr) (σ : L2.St) (H : Hp) (R : Bool → Hp → Prop) : Prop where
  go : ∀ (pins : List (Addr × Obj)) (s : Shared), Inv X pins σ H s →
  wpAny (model X.prog X.w) X.A (isTrue e X.env (eval e X.env)) (TP X pins σ R) X.xe s
structure WW (X : Cx) (e : Expr) (σ : L2.St) (H : Hp) (R : Bool → Hp → Prop) : Prop where
  go : ∀ (whole : Sem Value) (pins : List (Addr × Obj)) (s : Shared), Inv X pins σ H s →
  wpAny (model X.prog X.w) X.A (isTrue e X.env whole) (TP X pins σ R) X.xe s
structure WA (X : Cx) (es : List Expr) (σ : L2.St) (H : Hp) (U : List V → Hp → Prop) : Prop where
  go : ∀ (pos : Pos) (pins : List (Addr × Obj)) (s : Shared), Inv X pins σ H s →
  wpAny (model X.prog X.w) X.A (spliced (backTo pos (starEach es X.env))) (AP X pins σ U) X.xe s
structure WS (X : Cx) (st : Stmt) (D : Ends) (σ : L2.St) (H : Hp) : Prop where
  go : ∀ (pins : List (Addr × Obj)) (s : Shared), Inv X pins σ H s →
  wpAny (model X.prog X.w) X.A (exec st X.env) (SP X pins D) X.xe s
structure WL (X : Cx) (st : List Stmt) (D : Ends) (σ : L2.St) (H : Hp) : Prop where
  go : ∀ (pins : List (Addr × Obj)) (s : Shared), Inv X pins σ H s →
  wpAny (model X.prog X.w) X.A (execs st X.env) (SP X pins D) X.xe s
theorem pE {e : Expr} : PE X e (WE X e) := ⟨fun pins s _ _ _ I h => h.go pins s I⟩
theorem pT {e : Expr} : PT X e (WT X e) := ⟨fun pins s _ _ _ I h => h.go pins s I⟩
theorem pW {e : Expr} : PW X e (WW X e) := ⟨fun wh pins s _ _ _ I h => h.go wh pins s I⟩
theorem pA {es : List Expr} : PA X es (WA X es) := ⟨fun pos pins s _ _ _ I h => h.go pos pins s I⟩
theorem pS {st : Stmt} : PS X st (WS X st) := ⟨fun pins s _ _ _ I h => h.go pins s I⟩
theorem pL {st : List Stmt} : PSs X st (WL X st) := ⟨fun pins s _ _ _ I h => h.go pins s I⟩
variable {e a b c : Expr} {es rest : List Expr} {t : TE} {tt : TT} {ta : TA} {ts : TS} {σ : L2.St} {H : Hp} {Q : VK} {R : Bool → Hp → Prop} {U : List V → Hp → Prop} {D : Ends} {pos pos' : Pos} {st : Stmt} {sts : List Stmt} {v : V} {x : Str}
theorem toE (h : PE X e t) (q : t σ H Q) : WE X e σ H Q := ⟨fun pins s I => h.run pins s σ H Q I q⟩
theorem toT (h : PT X e tt) (q : tt σ H R) : WT X e σ H R := ⟨fun pins s I => h.run pins s σ H R I q⟩
theorem toW (h : PW X e tt) (q : tt σ H R) : WW X e σ H R := ⟨fun wh pins s I => h.run wh pins s σ H R I q⟩
theorem toA (h : PA X es ta) (q : ta σ H U) : WA X es σ H U := ⟨fun pos pins s I => h.run pos pins s σ H U I q⟩
theorem toS (h : PS X st ts) (q : ts D σ H) : WS X st D σ H := ⟨fun pins s I => h.run pins s σ H D I q⟩
theorem toL (h : PSs X sts ts) (q : ts D σ H) : WL X sts D σ H := ⟨fun pins s I => h.run pins s σ H D I q⟩
theorem WE.mono {Q' : VK} (h : WE X e σ H Q) (k : ∀ v H', Q v H' → Q' v H') : WE X e σ H Q' := ⟨fun pins s I =>
  thn (h.go pins s I) fun _ _ ⟨v, H', I', r, q⟩ => ⟨v, H', I', r, k v H' q⟩⟩
theorem SP.mono {pins : List (Addr × Obj)} {D' : Ends} {f : Flow} {s' : Shared} (h : SP X pins D f s') (k1 : ∀ σ H, D.nx σ H → D'.nx σ H) (k2 : ∀ v H, D.rt v H → D'.rt v H)
    (k3 : ∀ σ H, D.bk σ H → D'.bk σ H) (k4 : ∀ σ H, D.ct σ H → D'.ct σ H) : SP X pins D' f s' := by
  cases f with
  | next => obtain ⟨σ', H', I, q⟩ := h; exact ⟨σ', H', I, k1 _ _ q⟩
  | brk => obtain ⟨σ', H', I, q⟩ := h; exact ⟨σ', H', I, k3 _ _ q⟩
  | cont => obtain ⟨σ', H', I, q⟩ := h; exact ⟨σ', H', I, k4 _ _ q⟩
  | ret u => obtain ⟨v, σ', H', I, r, q⟩ := h; exact ⟨v, σ', H', I, r, k2 _ _ q⟩
theorem WS.mono {D' : Ends} (h : WS X st D σ H) (k1 : ∀ σ H, D.nx σ H → D'.nx σ H) (k2 : ∀ v H, D.rt v H → D'.rt v H) (k3 : ∀ σ H, D.bk σ H → D'.bk σ H) (k4 : ∀ σ H, D.ct σ H → D'.ct σ H) : WS X st D' σ H :=
  ⟨fun pins s I => thn (h.go pins s I) fun _ _ q => SP.mono q k1 k2 k3 k4⟩
/-- cut behind a statement: P stands there -/
theorem WS.cut {D : Ends} {nx : L2.St → Hp → Prop} (P : L2.St → Hp → Prop) (h : WS X st { D with nx := P } σ H) (k : ∀ σ H, P σ H → nx σ H) : WS X st { D with nx := nx } σ H :=
  WS.mono h k (fun _ _ q => q) (fun _ _ q => q) (fun _ _ q => q)

/-! expressions -/
theorem e_var (i : Nat) (h : σ[i]? = some (some v)) (q : Q v H) (hN : X.N[i]? = some x := by rfl) (hv : Vis X.env.scope x := by first | exact Or.inl rfl | exact Or.inr (Or.inl rfl) | exact Or.inr (Or.inr rfl))
    (hd : (x == ("__debug__" : Str)) = false := by decide) (hcd : (x == ("__classdict__" : Str)) = false := by decide) : WE X (.Name x pos) σ H Q := toE (pe_var hN hv hd hcd) ⟨v, h, q⟩
theorem e_int {i : Int} {j} (q : Q (.int i) H) : WE X (.Constant (.int i) j pos) σ H Q := toE pe_int q
theorem e_bl {i : Bool} {j} (q : Q (.bl i) H) : WE X (.Constant (.bool i) j pos) σ H Q := toE pe_bl q
theorem e_non {j} (q : Q .non H) : WE X (.Constant .none j pos) σ H Q := toE pe_non q
theorem e_str {z : Str} {j} (q : Q (.str z) H) : WE X (.Constant (.str z) j pos) σ H Q := toE pe_str q
theorem e_glob {u : Value} (hm : X.mg x = some u) (r : RelV v u) (q : Q v H) (hg : Gl X x := by rfl) (hd : (x == ("__debug__" : Str)) = false := by decide) : WE X (.Name x pos) σ H Q := toE (pe_glob hg hm r hd) q
theorem e_bltn {u : Value} (hm : X.mg x = none) (hv : bootBuiltins x = some u) (r : RelV v u) (q : Q v H) (hg : Gl X x := by rfl) (hn : x ≠ "__name__" := by decide) (hd : (x == ("__debug__" : Str)) = false := by decide) : WE X (.Name x pos) σ H Q :=
  toE (pe_bltn hg hm hv r hn hd) q
theorem e_op {op : Operator} {r : R2} (ho : OpR X (binaryOp op) r) (h : WE X a σ H fun x H1 => WE X b σ H1 fun y H2 => r x y H2 Q) : WE X (.BinOp a op b pos) σ H Q := toE (pe_op ho pE pE) h
theorem e_un {op : UnaryOp} {r : V → Hp → VK → Prop} (ho : UnR X (unaryOp op) r) (h : WE X a σ H fun x H1 => r x H1 Q) : WE X (.UnaryOp op a pos) σ H Q := toE (pe_un ho pE) h
theorem e_cmp {op : CmpOp} {r : R2} (ho : OpR X (compareOp op) r) (h : WE X a σ H fun x H1 => WE X b σ H1 fun y H2 => r x y H2 Q) (hm : behindInMarks op b = false := by first | exact nomark _ | with_unfolding_all rfl) : WE X (.Compare a [op] [b] pos) σ H Q :=
  toE (pe_cmpR ho pE pE hm) h
theorem e_and (h : WE X a σ H fun x H1 => ∃ k, x = .bl k ∧ (k = true → WE X (.BoolOp .And (b :: rest) pos) σ H1 Q) ∧ (k = false → Q (.bl false) H1)) : WE X (.BoolOp .And (a :: b :: rest) pos) σ H Q :=
  toE (pe_and pE pE) (WE.mono h fun v H' ⟨k, e, h1, h2⟩ => ⟨k, e, by cases k with | true => exact h1 rfl | false => exact h2 rfl⟩)
theorem e_or (h : WE X a σ H fun x H1 => ∃ k, x = .bl k ∧ (k = true → Q (.bl true) H1) ∧ (k = false → WE X (.BoolOp .Or (b :: rest) pos) σ H1 Q)) : WE X (.BoolOp .Or (a :: b :: rest) pos) σ H Q :=
  toE (pe_or pE pE) (WE.mono h fun v H' ⟨k, e, h1, h2⟩ => ⟨k, e, by cases k with | true => exact h1 rfl | false => exact h2 rfl⟩)
theorem e_one {op} (h : WE X a σ H Q) : WE X (.BoolOp op [a] pos) σ H Q := toE (pe_one pE) h
theorem e_not (h : WE X a σ H fun x H1 => ∃ k, x = .bl k ∧ Q (.bl (!k)) H1) : WE X (.UnaryOp .Not a pos) σ H Q := toE (pe_not pE) h
theorem e_if (h : WT X c σ H fun k H1 => (k = true → WE X a σ H1 Q) ∧ (k = false → WE X b σ H1 Q)) : WE X (.IfExp c a b pos) σ H Q :=
  toE (pe_ifExp (tA := fun σ H R => WT X c σ H R) pT pE pE) ⟨fun pins s I => thn (h.go pins s I) fun k s' ⟨H', I', h1, h2⟩ => ⟨H', I', by cases k with | true => exact h1 rfl | false => exact h2 rfl⟩⟩
theorem e_tup {k} (h : WA X es σ H fun xs H1 => xs.length ≤ sizeLine ∧ ∀ p, H1 p = none → Q (.ref p) (upd H1 p (.tup xs))) : WE X (.Tuple es k pos) σ H Q := toE (pe_tup pA) h
theorem e_lst (h : WA X es σ H fun xs H1 => xs.length ≤ sizeLine ∧ ∀ p, H1 p = none → Q (.ref p) (upd H1 p (.lst xs))) : WE X (.List es pos) σ H Q := toE (pe_lst pA) h
theorem e_ix {r : R2} (hr : IxR X r) (h : WE X a σ H fun x H1 => WE X b σ H1 fun y H2 => r x y H2 Q) (hs : PlainIx b := by exact fun _ _ => rfl) : WE X (.Subscript a b pos) σ H Q := toE (pe_ix hr pE pE hs) h
theorem e_callB {id : String} {r : List V → Hp → VK → Prop} {p : Pos} (hc : CallR X (.builtin id) r) (hm : X.mg x = none) (hv : bootBuiltins x = some (.builtin id)) (h : WA X (e :: es) σ H fun vs H1 => r vs H1 Q) (hg : Gl X x := by rfl)
    (hn : x ≠ "__name__" := by decide) (hdb : (x == ("__debug__" : Str)) = false := by decide) (he : starEach (e :: es) X.env = (false, eval e X.env) :: starEach es X.env := by rfl) (hpl : (backTo pos (starEach es X.env)).any (·.1) = false := by rfl) :
    WE X (.Call (.Name x p) (e :: es) [] pos) σ H Q := toE (pe_callB hc hg hm hv pA hn hdb he hpl) h
theorem e_callT {T : String} {r : List V → Hp → VK → Prop} {p : Pos} (hc : CallR X (.type T) r) (hm : X.mg x = none) (hv : bootBuiltins x = some (.type T)) (h : WA X (e :: es) σ H fun vs H1 => r vs H1 Q) (hg : Gl X x := by rfl)
    (hn : x ≠ "__name__" := by decide) (hdb : (x == ("__debug__" : Str)) = false := by decide) (he : starEach (e :: es) X.env = (false, eval e X.env) :: starEach es X.env := by rfl) (hpl : (backTo pos (starEach es X.env)).any (·.1) = false := by rfl) :
    WE X (.Call (.Name x p) (e :: es) [] pos) σ H Q := toE (pe_callTy hc hg hm hv pA hn hdb he hpl) h
theorem a_nil (q : U [] H) : WA X [] σ H U := toA pa_nil q
theorem a_cons (h : WE X e σ H fun x H1 => WA X es σ H1 fun xs H2 => U (x :: xs) H2) (hs : starEach (e :: es) X.env = (false, eval e X.env) :: starEach es X.env := by rfl) : WA X (e :: es) σ H U := toA (pa_cons pE pA hs) h

/-! tests -/
theorem t_cmp {op : CmpOp} {r : R2} (ho : OpR X (compareOp op) r) (h : WE X a σ H fun x H1 => WE X b σ H1 fun y H2 => r x y H2 fun z H3 => ∃ k, z = .bl k ∧ R k H3) (hm : behindInMarks op b = false := by first | exact nomark _ | with_unfolding_all rfl) : WT X (.Compare a [op] [b] pos) σ H R :=
  toT (pt_cmpR ho pE pE hm) h
theorem t_chain {op op' : CmpOp} {r r' : R2} (ho : OpR X (compareOp op) r) (ho' : OpR X (compareOp op') r') (h : tChain r r' (WE X a) (WE X b) (WE X c) σ H fun z H3 => ∃ k, z = .bl k ∧ R k H3)
    (hm : lastMarks [op, op'] [b, c] = false := by with_unfolding_all rfl) : WT X (.Compare a [op, op'] [b, c] pos) σ H R := toT (pt_chain ho ho' pE pE pE hm) h
theorem e_chain {op op' : CmpOp} {r r' : R2} (ho : OpR X (compareOp op) r) (ho' : OpR X (compareOp op') r') (h : tChain r r' (WE X a) (WE X b) (WE X c) σ H Q)
    (hm : lastMarks [op, op'] [b, c] = false := by with_unfolding_all rfl) : WE X (.Compare a [op, op'] [b, c] pos) σ H Q := toE (pe_chain ho ho' pE pE pE hm) h
theorem t_not (h : WT X a σ H fun k H1 => R (!k) H1) : WT X (.UnaryOp .Not a pos) σ H R := toT (pt_not pT) h
theorem WT.mono {R' : Bool → Hp → Prop} (h : WT X e σ H R) (k : ∀ b H', R b H' → R' b H') : WT X e σ H R' := ⟨fun pins s I => thn (h.go pins s I) fun _ _ ⟨H', I', q⟩ => ⟨H', I', k _ H' q⟩⟩
theorem w_and (h : WT X a σ H fun k H1 => (k = true → WW X (.BoolOp .And (b :: rest) pos) σ H1 R) ∧ (k = false → R false H1)) : WW X (.BoolOp .And (a :: b :: rest) pos) σ H R :=
  toW (pw_and pT pW) (WT.mono h fun k H' ⟨h1, h2⟩ => by cases k with | true => exact h1 rfl | false => exact h2 rfl)
theorem w_or (h : WT X a σ H fun k H1 => (k = true → R true H1) ∧ (k = false → WW X (.BoolOp .Or (b :: rest) pos) σ H1 R)) : WW X (.BoolOp .Or (a :: b :: rest) pos) σ H R :=
  toW (pw_or pT pW) (WT.mono h fun k H' ⟨h1, h2⟩ => by cases k with | true => exact h1 rfl | false => exact h2 rfl)
theorem w_and1 (h : WT X a σ H R) : WW X (.BoolOp .And [a] pos) σ H R := toW (pw_and1 pT) h
theorem w_or1 (h : WT X a σ H R) : WW X (.BoolOp .Or [a] pos) σ H R := toW (pw_or1 pT) h
theorem t_w (h : WW X e σ H R) : WT X e σ H R := ⟨fun pins s I => h.go _ pins s I⟩
theorem t_val (h : WE X e σ H fun x H1 => ∃ k, x = .bl k ∧ R k H1) (he : ∀ whole, isTrue e X.env whole = (do let v ← whole; standAt e.pos; holding [v] (truthy v)) := by intro _; rfl) : WT X e σ H R := toT (pt_val pE he) h
theorem t_tru (h : WE X e σ H fun x H1 => ∃ k, TruV X.K x H1 k ∧ R k H1) (he : ∀ whole, isTrue e X.env whole = (do let v ← whole; standAt e.pos; holding [v] (truthy v)) := by intro _; rfl) : WT X e σ H R := toT (pt_truth pE he) h

/-! statements -/
theorem l_nil (q : D.nx σ H) : WL X [] D σ H := toL pss_nil q
theorem l_cons (h : WS X st { D with nx := fun σ' H' => WL X sts D σ' H' } σ H) : WL X (st :: sts) D σ H := toL (pss_cons pS pL) h
theorem l_one (h : WS X st D σ H) : WL X [st] D σ H := toL (pss_one pS) h
theorem s_ret (h : WE X e σ H D.rt) : WS X (.Return (some e) pos) D σ H := toS (ps_ret pE) h
theorem s_if {l1 l2 : List Stmt} (h : WT X c σ H fun k H1 => (k = true → WL X l1 D σ H1) ∧ (k = false → WL X l2 D σ H1)) : WS X (.If c l1 l2 pos) D σ H :=
  toS (ps_if pT pL pL) (WT.mono h fun k H' ⟨h1, h2⟩ => by cases k with | true => exact h1 rfl | false => exact h2 rfl)
theorem s_set (i : Nat) (h : WE X e σ H fun v H1 => D.nx (σ.set i (some v)) H1) (hN : X.N.Nodup) (hi : X.N[i]? = some x := by rfl) (hx : Loc X.env.scope x := by first | exact Or.inl rfl | exact Or.inr rfl)
    (hs : swapsWith e (some (.Name x pos')) pos.line X.env = pure false := by rfl) (hf : X.fn x = true ∨ X.env.scope.names.lookup x = some .local := by first | exact .inl rfl | exact .inr rfl | assumption) : WS X (.Assign [.Name x pos'] e pos) D σ H :=
  toS (ps_set hN hi hx pE hs hf) h
theorem s_expr (h : WE X e σ H fun _ H1 => D.nx σ H1) (hs : swapsWith e none pos.line X.env = pure false := by rfl) : WS X (.Expr e pos) D σ H := toS (ps_expr pE hs) h
theorem s_asg {tg : Expr} {g : TG} (hg : PG X tg g) (h : WE X e σ H fun v H1 => g v σ H1 D.nx) (hs : swapsWithSole [tg] e pos.line X.env = pure false := by rfl) (hw : swappedStores [tg] e X.env = pure none := by rfl)
    (h1 : (assignEach [tg] X.env).map (·.2) = [assign tg X.env] := by rfl) : WS X (.Assign [tg] e pos) D σ H := toS (ps_asg pE hg hs hw h1) h
end
end My

namespace My
open PySem PySem.Spec PyProof.Rows L2

/-! ### defs that may ask for a repr: called where no repr runs -/
structure FnG (P : Program) (w : World) (K : PySem.W.Frag) (mg : Str → Option Value) (base : Heap) (k : Nat) (f : Addr) (fd : FuncData) (ps : List Str) (sp : Sp) : Prop where
  len : ∀ vs H Q E, sp vs H Q E → vs.length = ps.length
  go : ∀ (B : Around) (out : List Env) (s : Shared) (H : Hp) (ar : Args) (us : List Value) (vs : List V) (Q : VK) (E : XK), Room k B → B.guards = some [] → Env0 P w K mg base B out s H →
    BindsTo s fd ar (ps.zip us) → Vals vs us → sp vs H Q E → codeAny (model P w) B (.call (.ref f) ar) (CR CX0 out P w H s Q E) s
theorem FnG.of {P : Program} {w : World} {K : PySem.W.Frag} {mg : Str → Option Value} {base : Heap} {k : Nat} {f : Addr} {fd : FuncData} {ps : List Str} {sp : Sp} (F : FnOk P w K mg base CX0 k f fd ps sp) : FnG P w K mg base k f fd ps sp :=
  ⟨F.len, fun B out s H ar us vs Q E hr _ e hb hv hs => F.run B out s H ar us vs Q E hr e hb hv hs⟩
/-- a def's body, run where no repr runs -/
theorem Fun.okG {P : Program} {w : World} {K : PySem.W.Frag} {mg : Str → Option Value} {base : Heap} {x qual : Str} {st : Stmt} {f : Addr} {fd : FuncData} {N ps : List Str} {k : Nat} {sp : Sp} (F : Fun K x qual st f fd) (S : FnScope N ps (defScope st))
    (len : ∀ vs H Q E, sp vs H Q E → vs.length = ps.length)
    (body : ∀ (cdv : Value) (B : Around) (out : List Env) (s : Shared) (H : Hp) (vs : List V) (Q : VK) (E : XK), Room k (B.deeper (envOfC qual (defScope st) s.heap.objs.size f cdv)) →
      (B.deeper (envOfC qual (defScope st) s.heap.objs.size f cdv)).guards = some [] → sp vs H Q E →
      WL (cxOf CX0 P w K mg base N qual (defScope st) f cdv B out s H E).nox (defBody st) { nx := fun _ H' => Q .non H', rt := Q } (start N vs) H) : FnG P w K mg base (k + 1) f fd ps sp := by
  obtain ⟨oc, od, kV, doc, pm, an, cdv, ct, osl, rfl, lk, hcd⟩ := F.ex
  constructor
  · exact len
  · intro B out s H ar us vs Q E hr hG e hb hv hs
    have nv : vs.length = ps.length := len _ _ _ _ hs
    have inK : K.In s.heap := e.mod.kin.keeps fun b o z => (e.bs b o z).1
    have free : s.heap.NoLimit := e.mod.nolimit.keeps fun b o z => (e.bs b o z).1
    refine codeAny_call_function hr.depth (inK _ _ lk) rfl S.co S.gen rfl (PySem.W.codeRec_of inK hcd) (hb _ _ _ _ ?_)
    refine wpAny_newFunctionEnv_cells S.kind (fun y hy => ?_) fun env he s1 z => ?_
    · rcases S.par y.1 (List.of_mem_zip (a := y.1) (b := y.2) hy).1 with q | q
      · exact Or.inl q
      · exact Or.inr ⟨q, PySem.W.cellsFrom_some _ _ _ (Or.inl q)⟩
    · subst he
      refine ⟨free.keeps z.toInCall.keep, codeAny_func ?_⟩
      have hq := body cdv B out s H vs Q E (hr.deeper _) hG hs
      have I : Inv (cxOf CX0 P w K mg base N qual (defScope st) f cdv B out s H E) [] (start N vs) H s1 := inv_start S hr.hd e nv hv z
      have run := (pL (X := (cxOf CX0 P w K mg base N qual (defScope st) f cdv B out s H E).nox)).nox.run [] s1 (start N vs) H _ I hq
      refine wpAny_mono run (fun fl s' q => ?_) fun _ _ q => q
      cases fl with
      | brk => obtain ⟨_, _, _, q⟩ := q; exact q.elim
      | cont => obtain ⟨_, _, _, q⟩ := q; exact q.elim
      | next => obtain ⟨σ', H', J, q⟩ := q; exact ⟨V.non, H', J.os, J.bare, J.base, J.hok, rfl, q⟩
      | ret u => obtain ⟨v, σ', H', J, rv, q⟩ := q; exact ⟨v, H', J.os, J.bare, J.base, J.hok, rv, q⟩
theorem Fun.okW {P : Program} {w : World} {K : PySem.W.Frag} {mg : Str → Option Value} {base : Heap} {x qual : Str} {st : Stmt} {f : Addr} {fd : FuncData} {N ps : List Str} {k : Nat} {sp : Sp} (F : Fun K x qual st f fd) (S : FnScope N ps (defScope st))
    (len : ∀ vs H Q E, sp vs H Q E → vs.length = ps.length)
    (body : ∀ (cdv : Value) (B : Around) (out : List Env) (s : Shared) (H : Hp) (vs : List V) (Q : VK) (E : XK), Room k (B.deeper (envOfC qual (defScope st) s.heap.objs.size f cdv)) → sp vs H Q E →
      WL (cxOf CX0 P w K mg base N qual (defScope st) f cdv B out s H E).nox (defBody st) { nx := fun _ H' => Q .non H', rt := Q } (start N vs) H) : FnOk P w K mg base CX0 (k + 1) f fd ps sp :=
  F.ok S len fun cdv A outer s H vs Q E hr h => ⟨_, pL, body cdv A outer s H vs Q E hr h⟩
/-- all of a def, by its name -/
structure CalN (P : Program) (w : World) (K : PySem.W.Frag) (mg : Str → Option Value) (base : Heap) (k : Nat) (x : Str) (sp : Sp) : Prop where
  ex : ∃ (f : Addr) (fd : FuncData) (ps : List Str), FnOk P w K mg base CX0 k f fd ps sp ∧ mg x = some (.ref f) ∧ PySem.W.keepIn K (.ref f) = true ∧ Binds K fd ps []
/-- all of a def that may ask for a repr, by its name -/
structure CalG (P : Program) (w : World) (K : PySem.W.Frag) (mg : Str → Option Value) (base : Heap) (k : Nat) (x : Str) (sp : Sp) : Prop where
  ex : ∃ (f : Addr) (fd : FuncData) (ps : List Str), FnG P w K mg base k f fd ps sp ∧ mg x = some (.ref f) ∧ PySem.W.keepIn K (.ref f) = true ∧ Binds K fd ps []
section
variable {X : Cx} {e : Expr} {es : List Expr} {σ : L2.St} {H : Hp} {Q : VK} {pos p : Pos} {x : Str} {k j : Nat} {sp : Sp}
theorem e_c (c : CalN X.prog X.w X.K X.mg X.base k x sp) (hr : Room j X.A) (hk : k ≤ j) (h : WA X (e :: es) σ H fun vs H1 => sp (vs ++ []) H1 Q E0) (hg : Gl X x := by rfl)
    (hdb : (x == ("__debug__" : Str)) = false := by decide) (he : starEach (e :: es) X.env = (false, eval e X.env) :: starEach es X.env := by rfl) (hpl : (backTo pos (starEach es X.env)).any (·.1) = false := by rfl) :
    WE X (.Call (.Name x p) (e :: es) [] pos) σ H Q := by
  obtain ⟨f, fd, ps, F, hm, kp, hb⟩ := c.ex
  exact toE (pe_call F (hr.mono hk) hg hm kp hb .nil pass0 pA hdb he hpl) h
theorem e_cG (c : CalG X.prog X.w X.K X.mg X.base k x sp) (hr : Room j X.A) (hG : X.A.guards = some []) (hk : k ≤ j) (h : WA X (e :: es) σ H fun vs H1 => sp vs H1 Q E0) (hg : Gl X x := by rfl)
    (hdb : (x == ("__debug__" : Str)) = false := by decide) (he : starEach (e :: es) X.env = (false, eval e X.env) :: starEach es X.env := by rfl) (hpl : (backTo pos (starEach es X.env)).any (·.1) = false := by rfl) :
    WE X (.Call (.Name x p) (e :: es) [] pos) σ H Q := by
  obtain ⟨f, fd, ps, F, hm, kp, hb⟩ := c.ex
  constructor
  intro pins s I
  refine wpAny_Call_Name_kw (ld_glob I hg hm ?_ hdb)
  refine PySem.W.callWith_K (h₀ := X.base) I.ok.mod.kin kp (thn (h.go pos pins s I) fun us s1 ⟨vs, H1, I1, r, q⟩ => ⟨I1.kIn, ?_⟩) he hpl
  have nl : (us ++ []).length = ps.length := by rw [List.append_nil, ← r.length]; exact F.len _ _ _ _ q
  refine wpAny_call (codeAny_mono (F.go X.A X.stack s1 H1 ⟨us, []⟩ us vs Q E0 (hr.mono hk) hG I1.env0 (by simpa using hb s1 us I1.kIn nl) r q) fun r' s' z => ?_)
  cases r' with
  | error _ => exact z.elim
  | ok fl =>
    cases fl with
    | ret u => exact I1.after z
    | next => exact z.elim
    | brk => exact z.elim
    | cont => exact z.elim
end

/-! ### data and its repr -/
theorem Dp.noDict : ∀ (d : PyData) {K : PySem.W.Frag} {H : Hp} {v : V}, Dp K H v d → d.hasDict = false
  | .none, _, _, _, _ => rfl
  | .bool _, _, _, _, _ => rfl
  | .int _, _, _, _, _ => rfl
  | .str _, _, _, _, _ => rfl
  | .list ds, _, _, _, h => by cases h with | lst _ ha => exact noDictAll ds ha
  | .tuple ds, _, _, _, h => by cases h with | tup _ ha => exact noDictAll ds ha
  | .dict _, _, _, _, h => by cases h
where noDictAll : ∀ (ds : List PyData) {K : PySem.W.Frag} {H : Hp} {vs : List V}, DpAll K H vs ds → PyData.hasDictAll ds = false
  | [], _, _, _, _ => rfl
  | d :: ds, _, _, _, h => by
    cases h with
    | cons h1 h2 =>
      show (PyData.hasDict d || PyData.hasDictAll ds) = false
      rw [Dp.noDict d h1, noDictAll ds h2]
      rfl
/-- data at any depth, or a dict of scalars -/
def kD : Key → PyData
  | .inl i => .int i
  | .inr x => .str x
inductive Da (K : PySem.W.Frag) (H : Hp) : V → PyData → Prop
  | dp {v : V} {d : PyData} (h : Dp K H v d) : Da K H v d
  | dct {a : Addr} {kvs : List (Key × V)} {ds : List PyData} (h : H a = some (.dK kvs)) (e : DpAll K H (kvs.map (·.2)) ds) (flat : ∀ d ∈ ds, ∃ x, d = .str x ∨ ∃ i, d = .int i) : Da K H (.ref a) (.dict ((kvs.map fun p => kD p.1).zip ds))
section
variable {X : Cx} {pins : List (Addr × Obj)} {σ : L2.St} {H : Hp} {s : Shared}
theorem call_repr (hG : X.A.guards = some []) (hu : X.A.units + 64 < cLine) : CallR X (.builtin "repr") (fun xs H Q => ∃ x d, xs = [x] ∧ Dp X.K H x d ∧ d.showable = true ∧ d.depth ≤ 60 ∧ d.shown.length ≤ sizeLine ∧ Q (.str d.shown) H) := by
  intro pins s σ H xs us Q I r h
  obtain ⟨x, d, rfl, hd, hs, hp, hz, q⟩ := h
  obtain ⟨u, rfl, rx⟩ := vals1 r
  have nd := Dp.noDict d hd
  obtain ⟨as, rd⟩ := Dp.reads I d x u hd rx
  cases hd with
  | non => cases rx; exact PySem.P.repr_of_none ⟨.str _, H, I.tok _, ⟨_, rfl⟩, q⟩
  | bl b => cases rx; exact PySem.P.repr_of_bool ⟨.str _, H, I.tok _, ⟨_, rfl⟩, q⟩
  | int i =>
    obtain ⟨t, rfl⟩ := rx
    exact PySem.P.repr_of_int (by simpa [PyData.showable] using hs) ⟨.str _, H, I.tok _, ⟨_, rfl⟩, q⟩
  | str z =>
    obtain ⟨t, rfl⟩ := rx
    exact PySem.P.repr_of_str ⟨.str _, H, I.tok _, ⟨_, rfl⟩, q⟩ hz
  | lst _ _ =>
    cases rx
    exact repr_of_reads' rd hs (fun z => by rw [nd] at z; cases z) hG (by omega) (fun _ _ e => e) (fun h' t tk hk => ⟨.str _, H, I.kept hk, ⟨_, rfl⟩, q⟩) hz
  | tup _ _ =>
    cases rx
    exact repr_of_reads' rd hs (fun z => by rw [nd] at z; cases z) hG (by omega) (fun _ _ e => e) (fun h' t tk hk => ⟨.str _, H, I.kept hk, ⟨_, rfl⟩, q⟩) hz
end
end My

namespace My
open PySem PySem.Spec PyProof.Rows L2
section
variable {X : Cx} {σ : L2.St} {H : Hp} {Q : VK} {pos : Pos} {elt tg iter : Expr} {scope : Scope} {x : Str} {j : Nat}
/-- the block of a comprehension, in whatever frame it runs -/
def WB (X : Cx) (scope : Scope) (e : Expr) : TE := fun σ H Q => ∀ (s : Shared) (H0 : Hp) (C : Addr) (cl : List (Str × Addr)) (fp : List Addr), WE (X.blk s H0 scope (compEnvC scope cl C X.env) fp) e σ H Q
def WBT (X : Cx) (scope : Scope) (e : Expr) : TT := fun σ H R => ∀ (s : Shared) (H0 : Hp) (C : Addr) (cl : List (Str × Addr)) (fp : List Addr), WT (X.blk s H0 scope (compEnvC scope cl C X.env) fp) e σ H R
theorem set_wipe (σ : L2.St) (j : Nat) (v : V) : wipe ((wipe σ [j]).set j (some v)) [j] = wipe σ [j] := by
  show ((σ.set j none).set j (some v)).set j none = σ.set j none
  rw [List.set_set, List.set_set]
theorem e_lc {wi : TI} {pt : Pos} (j : Nat) (hi : PI X (.Name x pt) iter wi) (hN : X.N.Nodup) (ok : BlkOk X.N X.env.scope scope [(x, j)])
    (hg : ∀ (s : Shared) (H : Hp) (C : Addr) (cl : List (Str × Addr)) (fp : List Addr), PG (X.blk s H scope (compEnvC scope cl C X.env) fp) (.Name x pt) (gName j))
    (h : tLc wi (gName j) tYes (WB X scope elt) [j] σ H Q) (hc : X.calm = true := by rfl) (hs : ∀ z, foldedSetIterable iter X.env z = pure z := by intro _; rfl) :
    WE X (.ListComp elt [⟨.Name x pt, iter, [], 0⟩] scope pos) σ H Q :=
  toE (pe_lc (own := [(x, j)]) hc hN hi ok hg (fun _ _ _ _ _ => pts_nil) (fun s H0 C cl fp => ⟨fun pins s' σ' H' Q' I q => (q s H0 C cl fp).go pins s' I⟩) hs) h
/-- over a list: Pv by the turn and the heap, D the new list -/
theorem e_lcL {pt : Pos} (j : Nat) (hN : X.N.Nodup) (ok : BlkOk X.N X.env.scope scope [(x, j)])
    (h : WE X iter σ H fun v H1 => ∃ a xs, v = .ref a ∧ SqL X.K H1 a xs ∧ ∀ D, H1 D = none → ∃ Pv : Nat → Hp → Prop, Pv 0 (upd H1 D (.lst [])) ∧ (∀ i H, i ≤ xs.length → Pv i H → SqL X.K H a xs) ∧
      (∀ i y H, xs[i]? = some y → Pv i H → WB X scope elt ((wipe σ [j]).set j (some y)) H fun z H4 => ∃ acc, H4 D = some (.lst acc) ∧ acc.length < sizeLine ∧ Pv (i + 1) (upd H4 D (.lst (acc ++ [z])))) ∧
      ∀ H, Pv xs.length H → Q (.ref D) H)
    (hg : ∀ (s : Shared) (H : Hp) (C : Addr) (cl : List (Str × Addr)) (fp : List Addr), PG (X.blk s H scope (compEnvC scope cl C X.env) fp) (.Name x pt) (gName j))
    (hc : X.calm = true := by rfl) (hs : ∀ z, foldedSetIterable iter X.env z = pure z := by intro _; rfl) :
    WE X (.ListComp elt [⟨.Name x pt, iter, [], 0⟩] scope pos) σ H Q :=
  e_lc j (pi_list pE) hN ok hg (WE.mono h fun v H1 ⟨a, xs, e, hS, k⟩ => ⟨a, e, ⟨xs, hS⟩, fun D nD => by
    obtain ⟨Pv, p0, pl, ps, pd⟩ := k D nD
    exact lc_list (g := gName j) (tt := tYes) (te := WB X scope elt) (vs := [j]) (σ := σ) Pv p0 pl (fun i y H hi p => ⟨set_wipe σ j y, ps i y H hi p⟩) pd⟩) hc hs
theorem e_lcT {pt : Pos} (j : Nat) (hN : X.N.Nodup) (ok : BlkOk X.N X.env.scope scope [(x, j)])
    (h : WE X iter σ H fun v H1 => ∃ a xs, v = .ref a ∧ SqT X.K H1 a xs ∧ ∀ D, H1 D = none → ∃ Pv : Nat → Hp → Prop, Pv 0 (upd H1 D (.lst [])) ∧ (∀ i H, i ≤ xs.length → Pv i H → SqT X.K H a xs) ∧
      (∀ i y H, xs[i]? = some y → Pv i H → WB X scope elt ((wipe σ [j]).set j (some y)) H fun z H4 => ∃ acc, H4 D = some (.lst acc) ∧ acc.length < sizeLine ∧ Pv (i + 1) (upd H4 D (.lst (acc ++ [z])))) ∧
      ∀ H, Pv xs.length H → Q (.ref D) H)
    (hg : ∀ (s : Shared) (H : Hp) (C : Addr) (cl : List (Str × Addr)) (fp : List Addr), PG (X.blk s H scope (compEnvC scope cl C X.env) fp) (.Name x pt) (gName j))
    (hc : X.calm = true := by rfl) (hs : ∀ z, foldedSetIterable iter X.env z = pure z := by intro _; rfl) :
    WE X (.ListComp elt [⟨.Name x pt, iter, [], 0⟩] scope pos) σ H Q :=
  e_lc j (pi_tup pE) hN ok hg (WE.mono h fun v H1 ⟨a, xs, e, hS, k⟩ => ⟨a, e, ⟨xs, hS⟩, fun D nD => by
    obtain ⟨Pv, p0, pl, ps, pd⟩ := k D nD
    exact lc_tup (g := gName j) (tt := tYes) (te := WB X scope elt) (vs := [j]) (σ := σ) Pv p0 pl (fun i y H hi p => ⟨set_wipe σ j y, ps i y H hi p⟩) pd⟩) hc hs
theorem WA.mono {es : List Expr} {U U' : List V → Hp → Prop} (h : WA X es σ H U) (k : ∀ vs H', U vs H' → U' vs H') : WA X es σ H U' := ⟨fun pos pins s I => thn (h.go pos pins s I) fun _ _ ⟨vs, H', I', r, q⟩ => ⟨vs, H', I', r, k vs H' q⟩⟩
/-- over range(n) -/
theorem e_lcR {a : Expr} {p pc pt : Pos} (j : Nat) (hm : X.mg "range" = none) (hN : X.N.Nodup) (ok : BlkOk X.N X.env.scope scope [(x, j)])
    (h : WE X a σ H fun v H1 => ∃ n : Nat, v = .int n ∧ n < 2 ^ 62 ∧ ∀ D, H1 D = none → ∃ Pv : Nat → Hp → Prop, Pv 0 (upd H1 D (.lst [])) ∧
      (∀ i H, i < n → Pv i H → WB X scope elt ((wipe σ [j]).set j (some (.int i))) H fun z H4 => ∃ acc, H4 D = some (.lst acc) ∧ acc.length < sizeLine ∧ Pv (i + 1) (upd H4 D (.lst (acc ++ [z])))) ∧
      ∀ H, Pv n H → Q (.ref D) H)
    (hg : ∀ (s : Shared) (H : Hp) (C : Addr) (cl : List (Str × Addr)) (fp : List Addr), PG (X.blk s H scope (compEnvC scope cl C X.env) fp) (.Name x pt) (gName j))
    (hgl : Gl X "range" := by rfl) (hst : starEach [a] X.env = [(false, eval a X.env)] := by rfl)
    (hc : X.calm = true := by rfl) (hs : ∀ z, foldedSetIterable (.Call (.Name "range" p) [a] [] pc) X.env z = pure z := by intro _; rfl) :
    WE X (.ListComp elt [⟨.Name x pt, .Call (.Name "range" p) [a] [] pc, [], 0⟩] scope pos) σ H Q :=
  e_lc j (pi_range1 hgl hm (pA (es := [a])) hst) hN ok hg (a_cons (WE.mono h fun v H1 ⟨n, e, hn, k⟩ => a_nil ⟨(n : Int), by rw [e], by omega, by omega, fun D nD => by
    obtain ⟨Pv, p0, ps, pd⟩ := k D nD
    have en : ((n : Int)).toNat = n := by omega
    rw [en]
    refine lc_range (g := gName j) (tt := tYes) (te := WB X scope elt) (vs := [j]) (σ := σ) Pv p0 (fun i H hi p => ⟨set_wipe σ j _, ?_⟩) pd
    have e0 : (0 : Int) + (i : Int) = (i : Int) := Int.zero_add _
    rw [e0]
    exact ps i H hi p⟩) (by rw [hst]; rfl)) hc hs
/-- over a text, sign by sign -/
theorem e_lcS {pt : Pos} (j : Nat) (hN : X.N.Nodup) (ok : BlkOk X.N X.env.scope scope [(x, j)])
    (h : WE X iter σ H fun v H1 => ∃ z : Str, v = .str z ∧ ∀ D, H1 D = none → ∃ Pv : Nat → Hp → Prop, Pv 0 (upd H1 D (.lst [])) ∧
      (∀ i c H, z.cps[i]? = some c → Pv i H → WB X scope elt ((wipe σ [j]).set j (some (.str ⟨#[c]⟩))) H fun z H4 => ∃ acc, H4 D = some (.lst acc) ∧ acc.length < sizeLine ∧ Pv (i + 1) (upd H4 D (.lst (acc ++ [z])))) ∧
      ∀ H, Pv z.cps.size H → Q (.ref D) H)
    (hg : ∀ (s : Shared) (H : Hp) (C : Addr) (cl : List (Str × Addr)) (fp : List Addr), PG (X.blk s H scope (compEnvC scope cl C X.env) fp) (.Name x pt) (gName j))
    (hc : X.calm = true := by rfl) (hs : ∀ z, foldedSetIterable iter X.env z = pure z := by intro _; rfl) :
    WE X (.ListComp elt [⟨.Name x pt, iter, [], 0⟩] scope pos) σ H Q :=
  e_lc j (pi_str pE) hN ok hg (WE.mono h fun v H1 ⟨z, e, k⟩ => ⟨z, e, fun D nD => by
    obtain ⟨Pv, p0, ps, pd⟩ := k D nD
    refine ⟨fun i m H => m = z.cps.size - i ∧ i ≤ z.cps.size ∧ Pv i H, ⟨z.cps.size, by simp, Nat.zero_le _, p0⟩, ?_⟩
    rintro i m H ⟨rfl, hi, p⟩
    by_cases hlt : i < z.cps.size
    · refine .inr ⟨hlt, Pv (i + 1), fun H' p' => ⟨z.cps.size - (i + 1), by omega, rfl, hlt, p'⟩, fun y H' hy => ?_⟩
      obtain ⟨rfl, c, hcx, rfl⟩ := hy
      exact ⟨set_wipe σ j _, ps i c _ hcx p⟩
    · have e : i = z.cps.size := by omega
      subst e
      exact .inl ⟨Nat.le_refl _, pd H p⟩⟩) hc hs
end
/-! ### loops -/
section
variable {X : Cx} {σ : L2.St} {H : Hp} {pos : Pos} {tg iter : Expr} {body : List Stmt} {D : Ends} {g : TG}
theorem s_for {wi : TI} (hi : PI X tg iter wi) (hg : PG X tg g) (h : tFor wi g (WL X body) D σ H) (hp : PassesOwn (model X.prog X.w) X.A X.env X.xe) (hc : X.calm = true := by rfl)
    (hs : ∀ x, foldedSetIterable iter X.env x = pure x := by intro _; rfl) : WS X (.For tg iter body [] pos) D σ H := toS (ps_for hp hc hi hg pL hs) h
theorem s_forL (hg : PG X tg g) (h : WE X iter σ H fun v H1 => ∃ a xs, v = .ref a ∧ SqL X.K H1 a xs ∧ ∃ Pv : Nat → L2.St → Hp → Prop, Pv 0 σ H1 ∧ (∀ i σ H, i ≤ xs.length → Pv i σ H → SqL X.K H a xs) ∧
      (∀ i y σ H, xs[i]? = some y → Pv i σ H → g y σ H fun σ2 H2 => WL X body { D with nx := Pv (i + 1), ct := Pv (i + 1), bk := D.nx } σ2 H2) ∧ ∀ σ H, Pv xs.length σ H → D.nx σ H)
    (hp : PassesOwn (model X.prog X.w) X.A X.env X.xe) (hc : X.calm = true := by rfl) (hs : ∀ x, foldedSetIterable iter X.env x = pure x := by intro _; rfl) : WS X (.For tg iter body [] pos) D σ H :=
  s_for (pi_list pE) hg (WE.mono h fun v H1 ⟨a, xs, e, hS, Pv, p0, pl, ps, pd⟩ => ⟨a, e, ⟨xs, hS⟩, for_list Pv p0 pl ps pd⟩) hp hc hs
theorem s_forR {a : Expr} {p pc : Pos} (hm : X.mg "range" = none) (hg : PG X tg g) (h : WE X a σ H fun v H1 => ∃ n : Nat, v = .int n ∧ n < 2 ^ 62 ∧ ∃ Pv : Nat → L2.St → Hp → Prop, Pv 0 σ H1 ∧
      (∀ i σ H, i < n → Pv i σ H → g (.int i) σ H fun σ2 H2 => WL X body { D with nx := Pv (i + 1), ct := Pv (i + 1), bk := D.nx } σ2 H2) ∧ ∀ σ H, Pv n σ H → D.nx σ H)
    (hp : PassesOwn (model X.prog X.w) X.A X.env X.xe) (hgl : Gl X "range" := by rfl) (hst : starEach [a] X.env = [(false, eval a X.env)] := by rfl) (hc : X.calm = true := by rfl)
    (hs : ∀ z, foldedSetIterable (.Call (.Name "range" p) [a] [] pc) X.env z = pure z := by intro _; rfl) : WS X (.For tg (.Call (.Name "range" p) [a] [] pc) body [] pos) D σ H :=
  s_for (pi_range1 hgl hm (pA (es := [a])) hst) hg (a_cons (WE.mono h fun v H1 ⟨n, e, hn, Pv, p0, ps, pd⟩ => a_nil ⟨(n : Int), by rw [e], by omega, by omega, by
    have en : ((n : Int)).toNat = n := by omega
    rw [en]
    refine for_range Pv p0 (fun i σ H hi p => ?_) pd
    have e0 : (0 : Int) + (i : Int) = (i : Int) := Int.zero_add _
    rw [e0]
    exact ps i σ H hi p⟩) (by rw [hst]; rfl)) hp hc hs
end
end My

namespace My
open PySem PySem.Spec PyProof.Rows L2
/-- the call of a law whose def may ask for a repr, from one abstract heap that knows the script at most -/
theorem law_core {P : Program} {w : World} {K : PySem.W.Frag} {mg mb : Str → Option Value} {k : Nat} {fa a : Addr} {fd : FuncData} {x : Str} {sp : Sp} {s₁ : Shared} {vs : List Value} {H : Hp}
    (KX : K.In s₁.heap) (hns : s₁.heap.Ns mainGlobals mg) (hb : s₁.heap.Ns builtinsNs mb) (hbb : ∀ x : Str, x ≠ "__name__" → mb x = bootBuiltins x) (hlim : s₁.heap.NoLimit) (hg : s₁.gens = #[])
    (ha : s₁.heap.get? a = some { cls := .type "list", data := .seq vs.toArray }) (hr : Room k callerA)
    (F : ∀ base : Heap, K.In base → base.Ns mainGlobals mg → FnG P w K mg base k fa fd [x] sp) (bind : ∀ (s : Shared) (u : Value), BindsTo s fd ⟨[u], []⟩ [(x, u)])
    (hO : Only H) (hok : HOk P w H s₁.heap) (at' : ∀ b, H b ≠ none → b = a) (hK : H a ≠ none → K.lookup a = none) (hsp : sp [.ref a] H (fun v _ => v = .bl true) fun _ _ _ => False) :
    codeAny (model P w) callerA (.call (.ref fa) ⟨[.ref a], []⟩) (fun r s' => r = .ok (.ret (.bool true)) ∧ OldK s₁.heap s'.heap ∧ s'.os = s₁.os ∧ AllBare s'.gens) s₁ := by
  have unl : ∀ {b : Addr} {m : Str → Option Value}, s₁.heap.Ns b m → (hidT s₁.heap H).Ns b m := by
    rintro b m ⟨o, es, ep, e, d, r⟩
    refine ⟨o, es, ep, hidT_get e ?_, d, r⟩
    refine Classical.byContradiction fun z => ?_
    have eb := at' b z
    rw [eb, ha] at e
    rw [← Option.some.inj e] at d
    exact Data.noConfusion d
  have inK : K.In (hidT s₁.heap H) := fun b o e => hidT_get (KX b o e) (Classical.byContradiction fun z => by
    have eb := at' b z
    subst eb
    rw [hK z] at e
    cases e)
  have md : Mod K mg (hidT s₁.heap H) := { kin := inK, glob := unl hns, blt := ⟨mb, unl hb, hbb⟩, nolimit := by obtain ⟨mc, h1, h2⟩ := hlim; exact ⟨mc, unl h1, h2⟩ }
  have e0 : Env0 P w K mg (hidT s₁.heap H) callerA [] s₁ H :=
    { frames := rfl, mod := md, bs := fun b o e => of_hidT e, bsz := Nat.le_of_eq (hidT_size _ _), funs := trivial, frf := fun b z => absurd (show b ∈ ([] : List Addr) from z) (by simp), hok := hok, bare := .of_eq hg }
  have run := (F _ inK (unl hns)).go callerA [] s₁ H ⟨[.ref a], []⟩ [.ref a] [.ref a] _ _ hr rfl e0 (bind s₁ (.ref a)) (.cons rfl .nil) hsp
  refine codeAny_mono run fun r s' z => ?_
  match r, z with
  | .error e, z => exact False.elim z
  | .ok .next, z => exact False.elim z
  | .ok .brk, z => exact False.elim z
  | .ok .cont, z => exact False.elim z
  | .ok (.ret u), z =>
    obtain ⟨v, H', h1, h2, h3, h4, h5, h6⟩ := z
    have ev : v = .bl true := h6
    rw [ev] at h5
    have eu : u = Value.bool true := h5
    rw [eu]
    refine ⟨rfl, OldK.of_keep fun b o e => ?_, h1, h2⟩
    rcases hO b with n | ⟨ob, xs, n⟩
    · exact h3.keep b o e n (fun z => by cases z) (fun z => by cases z)
    · obtain ⟨g1, _⟩ := hok b _ n
      obtain ⟨g2, _⟩ := h4 b _ (h3.frzs b ob _ n)
      rw [e] at g1
      rw [Option.some.inj g1]
      exact g2
theorem law_G {P : Program} {w : World} {K : PySem.W.Frag} {mg mb : Str → Option Value} {k : Nat} {fa a : Addr} {fd : FuncData} {x : Str} {sp : Sp} {s₁ : Shared} {vs : List Value} {ns : List Int}
    (KX : K.In s₁.heap) (hns : s₁.heap.Ns mainGlobals mg) (hb : s₁.heap.Ns builtinsNs mb) (hbb : ∀ x : Str, x ≠ "__name__" → mb x = bootBuiltins x) (hlim : s₁.heap.NoLimit) (hg : s₁.gens = #[])
    (ha : s₁.heap.get? a = some { cls := .type "list", data := .seq vs.toArray }) (hi : IntsAre vs ns) (hl : ns.length ≤ sizeLine) (hr : Room k callerA)
    (F : ∀ base : Heap, K.In base → base.Ns mainGlobals mg → FnG P w K mg base k fa fd [x] sp) (bind : ∀ (s : Shared) (u : Value), BindsTo s fd ⟨[u], []⟩ [(x, u)])
    (hsp : ∀ H : Hp, Only H → SqL K H a (ns.map V.int) → sp [.ref a] H (fun v _ => v = .bl true) fun _ _ _ => False) :
    codeAny (model P w) callerA (.call (.ref fa) ⟨[.ref a], []⟩) (fun r s' => r = .ok (.ret (.bool true)) ∧ OldK s₁.heap s'.heap ∧ s'.os = s₁.os ∧ AllBare s'.gens) s₁ := by
  have rv := vals_ints hi
  have nl : vs.length ≤ sizeLine := by rw [hi.length]; exact hl
  cases hk : K.lookup a with
  | some o =>
    have e := KX a o hk
    rw [ha] at e
    have eo := Option.some.inj e
    subst eo
    exact law_core (H := fun _ => none) KX hns hb hbb hlim hg ha hr F bind (fun _ => .inl rfl) (fun b u z => by cases z) (fun b z => absurd rfl z) (fun z => absurd rfl z)
      (hsp _ (fun _ => .inl rfl) (.inr ⟨_, vs.toArray, _, hk, rfl, rfl, rfl, by simpa using nl, by simpa using rv⟩))
  | none =>
    have only : Only (upd (fun _ => none) a (.frz { cls := .type "list", data := .seq vs.toArray } (.lst (ns.map V.int)))) := fun b => by
      by_cases e : b = a
      · exact .inr ⟨_, _, by rw [e, upd_same]⟩
      · exact .inl (upd_ne e)
    refine law_core (H := upd (fun _ => none) a (.frz { cls := .type "list", data := .seq vs.toArray } (.lst (ns.map V.int)))) KX hns hb hbb hlim hg ha hr F bind only (fun b u z => ?_) (fun b z => ?_) (fun _ => hk)
      (hsp _ only (.inl (.inr ⟨_, upd_same⟩)))
    · by_cases e : b = a
      · subst e
        rw [upd_same] at z
        have eu := Option.some.inj z
        subst eu
        exact ⟨ha, by rw [List.length_map]; exact hl, vs, _, rv, ha⟩
      · rw [upd_ne e] at z
        cases z
    · refine Classical.byContradiction fun e => z ?_
      rw [upd_ne e]
theorem walk_G {l : PySem.W.OpenLaw} {n k : Nat} {q : Program} {loose : List Str} {XP : (Str → Option Value) → Heap → Prop} {YP : World → Heap → Prop} {d : DefRec} {K : Params → PySem.W.Frag} {sp : World → Sp} {x : Str}
    (hn : l.most = some n) (hn2 : n ≤ sizeLine) (hdf : d.params.defaults = []) (hr : Room k callerA) (hY : ∀ (w : World) (h : Heap), YP w h → (K w.params).In h)
    (F : ∀ (w : World) (mg : Str → Option Value) (fa : Addr) (h : Heap), (K w.params).In h → h.Ns mainGlobals mg → mg d.name = some (.ref fa) →
      ∃ fd : FuncData, (∀ (s : Shared) (u : Value), BindsTo s fd ⟨[u], []⟩ [(x, u)]) ∧ ∀ base : Heap, (K w.params).In base → base.Ns mainGlobals mg → FnG l.prog w (K w.params) mg base k fa fd [x] (sp w))
    (hsp : ∀ (w : World) (H : Hp) (a : Addr) (ns : List Int), ns.length ≤ n → Only H → SqL (K w.params) H a (ns.map V.int) → sp w [.ref a] H (fun v _ => v = .bl true) fun _ _ _ => False) :
    PySem.W.WalkO q loose XP YP l.row.toRowW d [] (fun f vs => PySem.call f vs) :=
  Att.attach_call hn hdf fun w s₀ s₁ mg mb fa o pm cd doc a vs ns G Y ho hd hcd hmg hobj hints hlen hg => by
    have KX := hY w _ Y
    obtain ⟨fd, bind, f⟩ := F w mg fa _ KX G.T.g hmg
    exact law_G KX G.T.g G.T.b G.T.builtins G.T.nolimit hg hobj hints (Nat.le_trans hlen hn2) hr f bind fun H hO hS => hsp w H a ns hlen hO hS
end My

namespace My
open PySem PySem.Spec PyProof.Rows L2
theorem same_new {H : Hp} {p : Addr} {o : HO} (h : H p = none) : Same H (upd H p o) := fun b x e => by rw [upd_ne (ne_of_none e h)]; exact e
theorem Same.seqT {K : PySem.W.Frag} {H H' : Hp} {a : Addr} {xs : List V} (e : Same H H') (h : SqT K H a xs) : SqT K H' a xs := by
  rcases h with (h | ⟨o, h⟩) | h
  · exact .inl (.inl (e _ _ h))
  · exact .inl (.inr ⟨o, e _ _ h⟩)
  · exact .inr h
/-- a change of what H does not know -/
theorem same_mut {H H' : Hp} {p : Addr} {o : HO} (e : Same H H') (h : H p = none) : Same H (upd H' p o) := fun b x z => by rw [upd_ne (ne_of_none z h)]; exact e b x z
/-- all but the object at p is as it was -/
def But (p : Addr) (H H' : Hp) : Prop := ∀ b o, b ≠ p → H b = some o → H' b = some o
theorem But.refl (p : Addr) (H : Hp) : But p H H := fun _ _ _ e => e
theorem But.trans {p : Addr} {H H1 H2 : Hp} (a : But p H H1) (b : But p H1 H2) : But p H H2 := fun c o n e => b c o n (a c o n e)
theorem But.of {p : Addr} {H H' : Hp} (e : Same H H') : But p H H' := fun b o _ h => e b o h
theorem But.upd {p : Addr} {H : Hp} {o : HO} : But p H (upd H p o) := fun b x n e => by rw [upd_ne n]; exact e
theorem But.free {p a : Addr} {H H' : Hp} (e : But p H H') (n : a ≠ p) (h : H' a = none) : H a = none := by
  cases q : H a with
  | none => rfl
  | some o => rw [e a o n q] at h; cases h
section
variable {X : Cx} {a b c e l : Expr} {es : List Expr} {σ : L2.St} {H : Hp} {Q : VK} {R : Bool → Hp → Prop} {D : Ends} {pos p p2 p3 pc apos : Pos} {x : Str}
/-- e[:h] of a list; of a tuple -/
theorem e_slL {h : Expr} (k : WE X e σ H fun x H1 => WE X h σ H1 fun y H2 => ∃ i a xs, y = .int i ∧ x = .ref a ∧ SqL X.K H2 a xs ∧ ∀ q, H2 q = none → Q (.ref q) (upd H2 q (.lst (cutV xs none (some i))))) :
    WE X (.Subscript e (.Slice none (some h) none p2) pos) σ H Q :=
  toE (pe_slice sl_list pE po_none (po_some pE)) (WE.mono k fun x H1 k1 => WE.mono k1 fun y H2 ⟨i, a, xs, e1, e2, hS, q⟩ => ⟨i, e1, a, xs, e2, hS, q⟩)
theorem e_slT {h : Expr} (k : WE X e σ H fun x H1 => WE X h σ H1 fun y H2 => ∃ i a xs, y = .int i ∧ x = .ref a ∧ SqT X.K H2 a xs ∧ ¬ (HT.sIx xs.length 0 none = 0 ∧ HT.sIx xs.length xs.length (some i) = xs.length) ∧ ∀ q, H2 q = none → Q (.ref q) (upd H2 q (.tup (cutV xs none (some i))))) :
    WE X (.Subscript e (.Slice none (some h) none p2) pos) σ H Q :=
  toE (pe_slice sl_tup pE po_none (po_some pE)) (WE.mono k fun x H1 k1 => WE.mono k1 fun y H2 ⟨i, a, xs, e1, e2, hS, hn, q⟩ => ⟨i, e1, a, xs, e2, hS, hn, q⟩)
/-- ints: a + b, a * b, a % b, a // b -/
theorem e_addI (k : WE X a σ H fun x H1 => WE X b σ H1 fun y H2 => ∃ i j, x = .int i ∧ y = .int j ∧ Q (.int (i + j)) H2) : WE X (.BinOp a .Add b pos) σ H Q := e_op op_add k
theorem e_subI (k : WE X a σ H fun x H1 => WE X b σ H1 fun y H2 => ∃ i j, x = .int i ∧ y = .int j ∧ Q (.int (i - j)) H2) : WE X (.BinOp a .Sub b pos) σ H Q := e_op op_sub k
theorem e_mulI (k : WE X a σ H fun x H1 => WE X b σ H1 fun y H2 => ∃ i j, x = .int i ∧ y = .int j ∧ CMul i j ∧ Q (.int (i * j)) H2) : WE X (.BinOp a .Mult b pos) σ H Q := e_op op_mul k
theorem e_modI (k : WE X a σ H fun x H1 => WE X b σ H1 fun y H2 => ∃ i j, x = .int i ∧ y = .int j ∧ 0 < j ∧ Q (.int (i % j)) H2) : WE X (.BinOp a .Mod b pos) σ H Q := e_op op_mod k
theorem e_divI (k : WE X a σ H fun x H1 => WE X b σ H1 fun y H2 => ∃ i j, x = .int i ∧ y = .int j ∧ CDiv i j ∧ Q (.int (i / j)) H2) : WE X (.BinOp a .FloorDiv b pos) σ H Q := e_op op_fdiv k
theorem e_addS (k : WE X a σ H fun x H1 => WE X b σ H1 fun y H2 => ∃ i j, x = .str i ∧ y = .str j ∧ i.length + j.length ≤ sizeLine ∧ Q (.str (i ++ j)) H2) : WE X (.BinOp a .Add b pos) σ H Q := e_op op_add_str k
theorem e_cat (k : WE X a σ H fun x H1 => WE X b σ H1 fun y H2 => ∃ l m xs zs, x = .ref l ∧ y = .ref m ∧ H2 l = some (.lst xs) ∧ H2 m = some (.lst zs) ∧ xs.length + zs.length ≤ sizeLine ∧ ∀ q, H2 q = none → Q (.ref q) (upd H2 q (.lst (xs ++ zs)))) : WE X (.BinOp a .Add b pos) σ H Q := e_op op_cat k
theorem e_ixL (k : WE X a σ H fun x H1 => WE X b σ H1 fun y H2 => ∃ l xs i v, x = .ref l ∧ y = .int i ∧ SqL X.K H2 l xs ∧ atI xs i = some v ∧ Q v H2) (hs : PlainIx b := by exact fun _ _ => rfl) : WE X (.Subscript a b pos) σ H Q := e_ix ix_list k hs
theorem e_ixT (k : WE X a σ H fun x H1 => WE X b σ H1 fun y H2 => ∃ l xs i v, x = .ref l ∧ y = .int i ∧ SqT X.K H2 l xs ∧ atI xs i = some v ∧ Q v H2) (hs : PlainIx b := by exact fun _ _ => rfl) : WE X (.Subscript a b pos) σ H Q := e_ix ix_tup k hs
theorem mul_sk : OpR X (binaryOp .Mult) (fun x y H Q => ∃ z n, x = .str z ∧ y = .int n ∧ PySem.MulOk z n ∧ Q (.str (Txt.mul z n)) H) := by
  intro pins s σ H x y v u Q I rx ry h
  obtain ⟨z, n, rfl, rfl, hz, q⟩ := h
  obtain ⟨t, rfl⟩ := rx
  obtain ⟨t', rfl⟩ := ry
  exact PySem.SB.mul hz (fun t' k => ⟨.str _, H, I.tok _, ⟨_, rfl⟩, q⟩)
/-- int(e) -/
theorem e_intI (hm : X.mg "int" = none) (k : WE X e σ H fun x H1 => (∃ i, x = .int i ∧ Q (.int i) H1) ∨ ∃ b, x = .bl b ∧ Q (.int (if b then 1 else 0)) H1) (hg : Gl X "int" := by rfl)
    (he : starEach [e] X.env = (false, eval e X.env) :: starEach [] X.env := by rfl) (hpl : (backTo pos (starEach [] X.env)).any (·.1) = false := by rfl) : WE X (.Call (.Name "int" p) [e] [] pos) σ H Q :=
  e_callT call_int1 hm PyProof.Rows.boot_int (a_cons (WE.mono k fun x H1 k1 => a_nil (by
    rcases k1 with ⟨i, rfl, q⟩ | ⟨b, rfl, q⟩
    · exact .inl ⟨i, rfl, q⟩
    · exact .inr ⟨b, rfl, q⟩)) he) hg (by decide) (by decide) he hpl
/-- len(e) -/
theorem e_len (hm : X.mg "len" = none) (k : WE X e σ H fun x H1 => ∃ l xs, x = .ref l ∧ (SqL X.K H1 l xs ∨ SqT X.K H1 l xs) ∧ Q (.int xs.length) H1) (hg : Gl X "len" := by rfl)
    (he : starEach [e] X.env = (false, eval e X.env) :: starEach [] X.env := by rfl) (hpl : (backTo pos (starEach [] X.env)).any (·.1) = false := by rfl) : WE X (.Call (.Name "len" p) [e] [] pos) σ H Q :=
  e_callB call_len_seq hm PySem.boot_len (a_cons (WE.mono k fun x H1 ⟨l, xs, e1, hS, q⟩ => a_nil ⟨l, xs, by rw [e1], hS, q⟩) he) hg (by decide) (by decide) he hpl
theorem e_lenS (hm : X.mg "len" = none) (k : WE X e σ H fun x H1 => ∃ z, x = .str z ∧ z.length ≤ sizeLine ∧ Q (.int z.length) H1) (hg : Gl X "len" := by rfl)
    (he : starEach [e] X.env = (false, eval e X.env) :: starEach [] X.env := by rfl) (hpl : (backTo pos (starEach [] X.env)).any (·.1) = false := by rfl) : WE X (.Call (.Name "len" p) [e] [] pos) σ H Q :=
  e_callB call_len_str hm PySem.boot_len (a_cons (WE.mono k fun x H1 ⟨z, e1, hS, q⟩ => a_nil ⟨z, by rw [e1], hS, q⟩) he) hg (by decide) (by decide) he hpl
/-- isinstance(e, T) -/
theorem e_isi {T : String} (hi : X.mg "isinstance" = none) (hT : X.mg x = none) (bT : bootBuiltins x = some (.type T)) (k : WE X e σ H fun v H1 => ∃ t b, TyX X.K H1 v (.type t) ∧ kitB t T = some b ∧ Q (.bl b) H1)
    (hg : Gl X "isinstance" := by rfl) (hgT : Gl X x := by rfl) (hn : x ≠ "__name__" := by decide) (hd : (x == ("__debug__" : Str)) = false := by decide)
    (he : starEach [e, .Name x p2] X.env = (false, eval e X.env) :: starEach [.Name x p2] X.env := by rfl) (he2 : starEach [.Name x p2] X.env = (false, eval (.Name x p2) X.env) :: starEach [] X.env := by rfl)
    (hpl : (backTo pos (starEach [.Name x p2] X.env)).any (·.1) = false := by rfl) :
    WE X (.Call (.Name "isinstance" p) [e, .Name x p2] [] pos) σ H Q :=
  e_callB call_isi hi PyProof.Rows.boot_isinstance (a_cons (WE.mono k fun v H1 ⟨t, b, ht, hk, q⟩ => a_cons (e_bltn (v := .ty T) hT bT rfl (a_nil ⟨v, .ty T, .type t, .type T, b, rfl, .ty T, ht, kit_ty hk, q⟩) hgT hn hd) he2) he) hg (by decide) (by decide) he hpl
/-- lo <= e <= hi -/
theorem t_btw (k : WE X a σ H fun x H1 => WE X b σ H1 fun y H2 => ∃ i j, x = .int i ∧ y = .int j ∧ (i ≤ j → WE X c σ H2 fun z H3 => ∃ m, z = .int m ∧ R (decide (j ≤ m)) H3) ∧ (¬ i ≤ j → R false H2))
    (hm : lastMarks [.LtE, .LtE] [b, c] = false := by with_unfolding_all rfl) : WT X (.Compare a [.LtE, .LtE] [b, c] pos) σ H R :=
  t_chain op_le op_le (WE.mono k fun x H1 k1 => WE.mono k1 fun y H2 ⟨i, j, e1, e2, h1, h2⟩ => ⟨i, j, e1, e2, decide (i ≤ j), rfl, by
    by_cases hij : i ≤ j
    · rw [decide_eq_true hij, if_pos rfl]
      exact WE.mono (h1 hij) fun z H3 ⟨m, e3, r⟩ => ⟨j, m, e2, e3, _, rfl, r⟩
    · rw [decide_eq_false hij, if_neg Bool.false_ne_true]
      exact ⟨false, rfl, h2 hij⟩⟩) hm
/-- e is None -/
theorem t_isN (k : WE X a σ H fun x H1 => R (decide (x = .non)) H1) {j} : WT X (.Compare a [.Is] [.Constant .none j p] pos) σ H R :=
  t_cmp op_isN (WE.mono k fun x H1 r => e_non ⟨rfl, _, rfl, r⟩) (by first | exact nomark _ | rfl)
/-- comparisons of scalars -/
theorem t_eq (k : WE X a σ H fun x H1 => WE X b σ H1 fun y H2 => scal x y = true ∧ R (decide (x = y)) H2) (hm : behindInMarks .Eq b = false := by first | exact nomark _ | with_unfolding_all rfl) : WT X (.Compare a [.Eq] [b] pos) σ H R :=
  t_cmp op_eq (WE.mono k fun x H1 k1 => WE.mono k1 fun y H2 ⟨h, r⟩ => ⟨h, _, rfl, r⟩) hm
theorem t_ne (k : WE X a σ H fun x H1 => WE X b σ H1 fun y H2 => scal x y = true ∧ R (!decide (x = y)) H2) (hm : behindInMarks .NotEq b = false := by first | exact nomark _ | with_unfolding_all rfl) : WT X (.Compare a [.NotEq] [b] pos) σ H R :=
  t_cmp op_ne (WE.mono k fun x H1 k1 => WE.mono k1 fun y H2 ⟨h, r⟩ => ⟨h, _, rfl, r⟩) hm
theorem t_lt (k : WE X a σ H fun x H1 => WE X b σ H1 fun y H2 => ∃ i j, x = .int i ∧ y = .int j ∧ R (decide (i < j)) H2) (hm : behindInMarks .Lt b = false := by first | exact nomark _ | with_unfolding_all rfl) : WT X (.Compare a [.Lt] [b] pos) σ H R :=
  t_cmp op_lt (WE.mono k fun x H1 k1 => WE.mono k1 fun y H2 ⟨i, j, e1, e2, r⟩ => ⟨i, j, e1, e2, _, rfl, r⟩) hm
theorem t_gt (k : WE X a σ H fun x H1 => WE X b σ H1 fun y H2 => ∃ i j, x = .int i ∧ y = .int j ∧ R (decide (j < i)) H2) (hm : behindInMarks .Gt b = false := by first | exact nomark _ | with_unfolding_all rfl) : WT X (.Compare a [.Gt] [b] pos) σ H R :=
  t_cmp op_gt (WE.mono k fun x H1 k1 => WE.mono k1 fun y H2 ⟨i, j, e1, e2, r⟩ => ⟨i, j, e1, e2, _, rfl, r⟩) hm
theorem t_ge (k : WE X a σ H fun x H1 => WE X b σ H1 fun y H2 => ∃ i j, x = .int i ∧ y = .int j ∧ R (decide (j ≤ i)) H2) (hm : behindInMarks .GtE b = false := by first | exact nomark _ | with_unfolding_all rfl) : WT X (.Compare a [.GtE] [b] pos) σ H R :=
  t_cmp op_ge (WE.mono k fun x H1 k1 => WE.mono k1 fun y H2 ⟨i, j, e1, e2, r⟩ => ⟨i, j, e1, e2, _, rfl, r⟩) hm
/-- l != [] of a list that is data -/
theorem t_neD (hu : X.A.units + 64 < cLine) (k : WE X a σ H fun x H1 => WE X b σ H1 fun y H2 => ∃ d e, Dp X.K H2 x d ∧ Dp X.K H2 y e ∧ SeqAt.shaped d = true ∧ SeqAt.shaped e = true ∧ R (!PyData.eqv d e) H2) (hm : behindInMarks .NotEq b = false := by first | exact nomark _ | with_unfolding_all rfl) :
    WT X (.Compare a [.NotEq] [b] pos) σ H R := t_cmp (op_neD hu) (WE.mono k fun x H1 k1 => WE.mono k1 fun y H2 ⟨d, e, h1, h2, h3, h4, r⟩ => ⟨d, e, h1, h2, h3, h4, _, rfl, r⟩) hm
/-- o[i] = e, a list -/
theorem s_setL (k : WE X e σ H fun v H1 => WE X a σ H1 fun o H2 => WE X b σ H2 fun i H3 => ∃ l xs m j, o = .ref l ∧ i = .int m ∧ H3 l = some (.lst xs) ∧ ixN xs.length m = some j ∧ D.nx σ (upd H3 l (.lst (xs.set j v))))
    (ha : ∀ v, assign (.Subscript a b p) X.env v = (do
      let ov ← holding [v] (eval a X.env)
      let iv ← holding [v, ov] (eval b X.env)
      standAt p
      holding [v, ov, iv] (setItem ov iv v)
      release [v, ov, iv] []) := by intro _; rfl)
    (hs : swapsWithSole [.Subscript a b p] e pos.line X.env = pure false := by rfl) (hw : swappedStores [.Subscript a b p] e X.env = pure none := by rfl)
    (h1 : (assignEach [.Subscript a b p] X.env).map (·.2) = [assign (.Subscript a b p) X.env] := by rfl) : WS X (.Assign [.Subscript a b p] e pos) D σ H :=
  s_asg (pg_sub pE pE set_list ha) (WE.mono k fun v H1 k1 => WE.mono k1 fun o H2 k2 => WE.mono k2 fun i H3 ⟨l, xs, m, j, e1, e2, e3, e4, q⟩ => ⟨l, xs, m, j, e1, e2, e3, e4, q⟩) hs hw h1
end
end My

namespace My
open PySem PySem.Spec PyProof.Rows L2
/-! ### data made of tuples alone -/
mutual
inductive DT (H : Hp) : V → PyData → Prop
  | non : DT H .non .none
  | bl (b : Bool) : DT H (.bl b) (.bool b)
  | int (i : Int) : DT H (.int i) (.int i)
  | str (x : Str) : DT H (.str x) (.str x)
  | tup {a : Addr} {xs : List V} {ds : List PyData} : H a = some (.tup xs) → DTs H xs ds → DT H (.ref a) (.tuple ds)
inductive DTs (H : Hp) : List V → List PyData → Prop
  | nil : DTs H [] []
  | cons {v : V} {vs : List V} {d : PyData} {ds : List PyData} : DT H v d → DTs H vs ds → DTs H (v :: vs) (d :: ds)
end
/-- tuples stay -/
def Tup (H H' : Hp) : Prop := ∀ b xs, H b = some (.tup xs) → H' b = some (.tup xs)
theorem Tup.refl (H : Hp) : Tup H H := fun _ _ e => e
theorem Tup.trans {H H1 H2 : Hp} (a : Tup H H1) (b : Tup H1 H2) : Tup H H2 := fun c xs e => b c xs (a c xs e)
theorem Same.tups {H H' : Hp} (e : Same H H') : Tup H H' := fun b xs h => e b _ h
theorem Tup.new {H : Hp} {p : Addr} {o : HO} (h : H p = none) : Tup H (upd H p o) := Same.tups (same_new h)
theorem Tup.set {H : Hp} {p : Addr} {o : HO} {ys : List V} (h : H p = some (.lst ys)) : Tup H (upd H p o) := fun b xs e => by rw [upd_ne (ne_of e h (fun z => by cases z))]; exact e
theorem But.tups {p : Addr} {H H' : Hp} {ys : List V} (e : But p H H') (h : H p = some (.lst ys)) : Tup H H' := fun b xs z => e b _ (ne_of z h (fun z => by cases z)) z
mutual
theorem DT.mono {H H' : Hp} (e : Tup H H') : ∀ {d : PyData} {v : V}, DT H v d → DT H' v d
  | .none, _, h => by cases h; exact .non
  | .bool b, _, h => by cases h; exact .bl b
  | .int i, _, h => by cases h; exact .int i
  | .str x, _, h => by cases h; exact .str x
  | .list _, _, h => by cases h
  | .dict _, _, h => by cases h
  | .tuple ds, _, h => by cases h with | tup h1 h2 => exact .tup (e _ _ h1) (DTs.mono e h2)
theorem DTs.mono {H H' : Hp} (e : Tup H H') : ∀ {ds : List PyData} {vs : List V}, DTs H vs ds → DTs H' vs ds
  | [], _, h => by cases h; exact .nil
  | d :: ds, _, h => by cases h with | cons h1 h2 => exact .cons (DT.mono e h1) (DTs.mono e h2)
end
mutual
theorem DT.dp {K : PySem.W.Frag} {H : Hp} : ∀ {d : PyData} {v : V}, DT H v d → Dp K H v d
  | .none, _, h => by cases h; exact .non
  | .bool b, _, h => by cases h; exact .bl b
  | .int i, _, h => by cases h; exact .int i
  | .str x, _, h => by cases h; exact .str x
  | .list _, _, h => by cases h
  | .dict _, _, h => by cases h
  | .tuple ds, _, h => by cases h with | tup h1 h2 => exact .tup (.inl (.inl h1)) (DTs.dps h2)
theorem DTs.dps {K : PySem.W.Frag} {H : Hp} : ∀ {ds : List PyData} {vs : List V}, DTs H vs ds → DpAll K H vs ds
  | [], _, h => by cases h; exact .nil
  | d :: ds, _, h => by cases h with | cons h1 h2 => exact .cons (DT.dp h1) (DTs.dps h2)
end
theorem DTs.append {H : Hp} : ∀ {vs ws : List V} {ds es : List PyData}, DTs H vs ds → DTs H ws es → DTs H (vs ++ ws) (ds ++ es)
  | _, _, _, _, .nil, h => h
  | _, _, _, _, .cons h1 h2, h => .cons h1 (DTs.append h2 h)
theorem DTs.snoc {H : Hp} {vs : List V} {ds : List PyData} {v : V} {d : PyData} (h : DTs H vs ds) (k : DT H v d) : DTs H (vs ++ [v]) (ds ++ [d]) := h.append (.cons k .nil)
theorem DTs.length {H : Hp} : ∀ {vs : List V} {ds : List PyData}, DTs H vs ds → vs.length = ds.length
  | _, _, .nil => rfl
  | _, _, .cons _ h => congrArg (· + 1) (DTs.length h)
theorem DTs.get {H : Hp} : ∀ {vs : List V} {ds : List PyData} {i : Nat} {v : V}, DTs H vs ds → vs[i]? = some v → ∃ d, ds[i]? = some d ∧ DT H v d
  | _, _, _, _, .nil, e => by simp at e
  | _, _, 0, _, .cons h1 _, e => by simp at e; subst e; exact ⟨_, rfl, h1⟩
  | _, _, i + 1, _, .cons _ h2, e => by simpa using DTs.get h2 (by simpa using e)
theorem DTs.getD {H : Hp} : ∀ {vs : List V} {ds : List PyData} {i : Nat} {d : PyData}, DTs H vs ds → ds[i]? = some d → ∃ v, vs[i]? = some v ∧ DT H v d
  | _, _, _, _, .nil, e => by simp at e
  | _, _, 0, _, .cons h1 _, e => by simp at e; subst e; exact ⟨_, rfl, h1⟩
  | _, _, i + 1, _, .cons _ h2, e => by simpa using DTs.getD h2 (by simpa using e)
theorem DTs.strs {H : Hp} : ∀ zs : List Str, DTs H (zs.map V.str) (zs.map PyData.str)
  | [] => .nil
  | z :: zs => .cons (.str z) (DTs.strs zs)
theorem DTs.take {H : Hp} : ∀ {vs : List V} {ds : List PyData} (n : Nat), DTs H vs ds → DTs H (vs.take n) (ds.take n)
  | _, _, 0, _ => by simp only [List.take_zero]; exact .nil
  | _, _, _ + 1, .nil => .nil
  | _, _, n + 1, .cons h1 h2 => .cons h1 (DTs.take n h2)
/-- looking into a tuple -/
theorem DT.tupE {H : Hp} {v : V} {ds : List PyData} (h : DT H v (.tuple ds)) : ∃ a xs, v = .ref a ∧ H a = some (.tup xs) ∧ DTs H xs ds := by
  cases h with | tup h1 h2 => exact ⟨_, _, rfl, h1, h2⟩
theorem DT.strE {H : Hp} {v : V} {x : Str} (h : DT H v (.str x)) : v = .str x := by cases h; rfl
theorem DT.nonE {H : Hp} {v : V} (h : DT H v .none) : v = .non := by cases h; rfl
theorem DT.blE {H : Hp} {v : V} {b : Bool} (h : DT H v (.bool b)) : v = .bl b := by cases h; rfl
theorem DTs.e0 {H : Hp} {vs : List V} (h : DTs H vs []) : vs = [] := by cases h; rfl
theorem DTs.e1 {H : Hp} {vs : List V} {d : PyData} {ds : List PyData} (h : DTs H vs (d :: ds)) : ∃ v ws, vs = v :: ws ∧ DT H v d ∧ DTs H ws ds := by cases h with | cons h1 h2 => exact ⟨_, _, rfl, h1, h2⟩
theorem DT.tup2 {H : Hp} {v : V} {d e : PyData} (h : DT H v (.tuple [d, e])) : ∃ a x y, v = .ref a ∧ H a = some (.tup [x, y]) ∧ DT H x d ∧ DT H y e := by
  obtain ⟨a, xs, rfl, h1, h2⟩ := h.tupE
  obtain ⟨x, r, rfl, hx, h2⟩ := h2.e1
  obtain ⟨y, r, rfl, hy, h2⟩ := h2.e1
  cases h2.e0
  exact ⟨a, x, y, rfl, h1, hx, hy⟩
theorem DT.tup3 {H : Hp} {v : V} {d e f : PyData} (h : DT H v (.tuple [d, e, f])) : ∃ a x y z, v = .ref a ∧ H a = some (.tup [x, y, z]) ∧ DT H x d ∧ DT H y e ∧ DT H z f := by
  obtain ⟨a, xs, rfl, h1, h2⟩ := h.tupE
  obtain ⟨x, r, rfl, hx, h2⟩ := h2.e1
  obtain ⟨y, r, rfl, hy, h2⟩ := h2.e1
  obtain ⟨z, r, rfl, hz, h2⟩ := h2.e1
  cases h2.e0
  exact ⟨a, x, y, z, rfl, h1, hx, hy, hz⟩
theorem DT.tup4 {H : Hp} {v : V} {d e f g : PyData} (h : DT H v (.tuple [d, e, f, g])) : ∃ a x y z w, v = .ref a ∧ H a = some (.tup [x, y, z, w]) ∧ DT H x d ∧ DT H y e ∧ DT H z f ∧ DT H w g := by
  obtain ⟨a, xs, rfl, h1, h2⟩ := h.tupE
  obtain ⟨x, r, rfl, hx, h2⟩ := h2.e1
  obtain ⟨y, r, rfl, hy, h2⟩ := h2.e1
  obtain ⟨z, r, rfl, hz, h2⟩ := h2.e1
  obtain ⟨w, r, rfl, hw, h2⟩ := h2.e1
  cases h2.e0
  exact ⟨a, x, y, z, w, rfl, h1, hx, hy, hz, hw⟩
/-! ### sizes -/
mutual
def szD : PyData → Nat
  | .str x => 10 * x.length + 5
  | .tuple ds => szDs ds + 5
  | .none | .bool _ | .int _ | .list _ | .dict _ => 5
def szDs : List PyData → Nat
  | [] => 0
  | d :: ds => szD d + 2 + szDs ds
end
/-! no ints, lists, dicts; the texts have small signs -/
mutual
def okD : PyData → Bool
  | .str x => x.cps.toList.all fun c => decide (c < 128)
  | .tuple ds => okDs ds
  | .none | .bool _ => true
  | .int _ | .list _ | .dict _ => false
def okDs : List PyData → Bool
  | [] => true
  | d :: ds => okD d && okDs ds
end
mutual
theorem shown_le : ∀ d : PyData, okD d = true → d.shown.length ≤ szD d
  | .none, _ => by decide
  | .bool true, _ => by decide
  | .bool false, _ => by decide
  | .str x, h => by
    show (reprText x).length ≤ 10 * x.length + 5
    have := StrLaws.reprText_len x (fun c hc => Nat.lt_of_lt_of_le (of_decide_eq_true (List.all_eq_true.mp h c hc)) (by decide))
    omega
  | .tuple ds, h => by
    show (tupleText (PyData.shownAll ds)).length ≤ szDs ds + 5
    have h1 := tupleText_len_le (PyData.shownAll ds)
    have h2 := shownAll_le ds h
    omega
  | .int _, h => by cases h
  | .list _, h => by cases h
  | .dict _, h => by cases h
theorem shownAll_le : ∀ ds : List PyData, okDs ds = true → ((PyData.shownAll ds).map (·.length)).sum + 2 * (PyData.shownAll ds).length ≤ szDs ds
  | [], _ => by decide
  | d :: ds, h => by
    have h' : (okD d && okDs ds) = true := h
    simp only [Bool.and_eq_true] at h'
    have h1 := shown_le d h'.1
    have h2 := shownAll_le ds h'.2
    show (((PyData.shown d) :: PyData.shownAll ds).map (·.length)).sum + 2 * ((PyData.shown d) :: PyData.shownAll ds).length ≤ szD d + 2 + szDs ds
    rw [List.map_cons, List.sum_cons, List.length_cons]
    omega
end
mutual
theorem showable_ok : ∀ d : PyData, okD d = true → d.showable = true
  | .none, _ => rfl
  | .bool _, _ => rfl
  | .str _, _ => rfl
  | .tuple ds, h => showables_ok ds h
  | .int _, h => by cases h
  | .list _, h => by cases h
  | .dict _, h => by cases h
theorem showables_ok : ∀ ds : List PyData, okDs ds = true → PyData.showableAll ds = true
  | [], _ => rfl
  | d :: ds, h => by
    have h' : (okD d && okDs ds) = true := h
    simp only [Bool.and_eq_true] at h'
    show (PyData.showable d && PyData.showableAll ds) = true
    rw [showable_ok d h'.1, showables_ok ds h'.2]
    rfl
end
theorem okDs_of {ds : List PyData} (h : ∀ d ∈ ds, okD d = true) : okDs ds = true := by
  induction ds with
  | nil => rfl
  | cons d ds ih => show (okD d && okDs ds) = true; rw [h d List.mem_cons_self, ih fun x hx => h x (List.mem_cons_of_mem _ hx)]; rfl
theorem szDs_of {ds : List PyData} {n : Nat} (h : ∀ d ∈ ds, szD d ≤ n) : szDs ds ≤ ds.length * (n + 2) := by
  induction ds with
  | nil => exact Nat.zero_le _
  | cons d ds ih =>
    have h1 := h d List.mem_cons_self
    have h2 := ih fun x hx => h x (List.mem_cons_of_mem _ hx)
    show szD d + 2 + szDs ds ≤ (ds.length + 1) * (n + 2)
    rw [Nat.add_mul]
    omega
theorem depth_of {ds : List PyData} {n : Nat} (h : ∀ d ∈ ds, d.depth ≤ n) : PyData.depthAll ds ≤ n := by
  induction ds with
  | nil => exact Nat.zero_le _
  | cons d ds ih =>
    show max (PyData.depth d) (PyData.depthAll ds) ≤ n
    exact Nat.max_le.mpr ⟨h d List.mem_cons_self, ih fun x hx => h x (List.mem_cons_of_mem _ hx)⟩
theorem str_ext {x y : Str} (h : x.cps.toList = y.cps.toList) : x = y := by
  obtain ⟨a⟩ := x
  obtain ⟨b⟩ := y
  have e : a = b := Array.toList_inj.mp h
  rw [e]
theorem str_cat (x y : Str) : (x ++ y).cps.toList = x.cps.toList ++ y.cps.toList := Array.toList_append
theorem str_assoc (x y z : Str) : x ++ y ++ z = x ++ (y ++ z) := str_ext (by rw [str_cat, str_cat, str_cat, str_cat, List.append_assoc])
end My

namespace My
open PySem PySem.Spec PyProof.Rows L2
/-! ### data of any kind at addresses of which none is among S (the things that are still written to) -/
mutual
inductive DG (S : Addr → Prop) (H : Hp) : V → PyData → Prop
  | non : DG S H .non .none
  | bl (b : Bool) : DG S H (.bl b) (.bool b)
  | int (i : Int) : DG S H (.int i) (.int i)
  | str (x : Str) : DG S H (.str x) (.str x)
  | tup {a : Addr} {xs : List V} {ds : List PyData} (h : H a = some (.tup xs)) (hs : DGs S H xs ds) : DG S H (.ref a) (.tuple ds)
  | lst {a : Addr} {xs : List V} {ds : List PyData} (h : H a = some (.lst xs)) (n : ¬ S a) (hs : DGs S H xs ds) : DG S H (.ref a) (.list ds)
  | dct {a : Addr} {kvs : List (Key × V)} {ds : List PyData} (h : H a = some (.dK kvs)) (n : ¬ S a) (hs : DGs S H (kvs.map (·.2)) ds) : DG S H (.ref a) (.dict ((kvs.map fun p => kD p.1).zip ds))
inductive DGs (S : Addr → Prop) (H : Hp) : List V → List PyData → Prop
  | nil : DGs S H [] []
  | cons {v : V} {vs : List V} {d : PyData} {ds : List PyData} (h : DG S H v d) (hs : DGs S H vs ds) : DGs S H (v :: vs) (d :: ds)
end
/-- all but what is among S is as it was -/
def Not (S : Addr → Prop) (H H' : Hp) : Prop := ∀ a o, ¬ S a → H a = some o → H' a = some o
mutual
theorem DG.mono {S T : Addr → Prop} {H H' : Hp} (ht : Tup H H') (k : ∀ a o, ¬ S a → H a = some o → ¬ T a ∧ H' a = some o) : ∀ {v : V} {d : PyData}, DG S H v d → DG T H' v d
  | _, _, .non => .non
  | _, _, .bl b => .bl b
  | _, _, .int i => .int i
  | _, _, .str x => .str x
  | _, _, .tup h hs => .tup (ht _ _ h) (DGs.mono ht k hs)
  | _, _, .lst h n hs => .lst (k _ _ n h).2 (k _ _ n h).1 (DGs.mono ht k hs)
  | _, _, .dct h n hs => .dct (k _ _ n h).2 (k _ _ n h).1 (DGs.mono ht k hs)
theorem DGs.mono {S T : Addr → Prop} {H H' : Hp} (ht : Tup H H') (k : ∀ a o, ¬ S a → H a = some o → ¬ T a ∧ H' a = some o) : ∀ {vs : List V} {ds : List PyData}, DGs S H vs ds → DGs T H' vs ds
  | _, _, .nil => .nil
  | _, _, .cons h hs => .cons (DG.mono ht k h) (DGs.mono ht k hs)
end
theorem DGs.length {S : Addr → Prop} {H : Hp} : ∀ {vs : List V} {ds : List PyData}, DGs S H vs ds → vs.length = ds.length
  | _, _, .nil => rfl
  | _, _, .cons _ hs => congrArg (· + 1) hs.length
theorem DGs.append {S : Addr → Prop} {H : Hp} : ∀ {vs ws : List V} {ds es : List PyData}, DGs S H vs ds → DGs S H ws es → DGs S H (vs ++ ws) (ds ++ es)
  | _, _, _, _, .nil, k => k
  | _, _, _, _, .cons h hs, k => .cons h (hs.append k)
theorem DGs.get {S : Addr → Prop} {H : Hp} : ∀ {vs : List V} {ds : List PyData} {i : Nat} {v : V}, DGs S H vs ds → vs[i]? = some v → ∃ d, ds[i]? = some d ∧ DG S H v d
  | _, _, 0, _, .cons h _, e => ⟨_, rfl, by cases e; exact h⟩
  | _, _, i + 1, _, .cons _ hs, e => by
    obtain ⟨d, e2, h⟩ := hs.get (i := i) (by simpa using e)
    exact ⟨d, by simpa using e2, h⟩
  | _, _, 0, _, .nil, e => by cases e
  | _, _, i + 1, _, .nil, e => by cases e
theorem DGs.strs {S : Addr → Prop} {H : Hp} : ∀ zs : List Str, DGs S H (zs.map V.str) (zs.map PyData.str)
  | [] => .nil
  | z :: zs => .cons (.str z) (DGs.strs zs)
mutual
theorem DG.of {S : Addr → Prop} {H : Hp} : ∀ {v : V} {d : PyData}, DT H v d → DG S H v d
  | _, _, .non => .non
  | _, _, .bl b => .bl b
  | _, _, .int i => .int i
  | _, _, .str x => .str x
  | _, _, .tup h hs => .tup h (DGs.of hs)
theorem DGs.of {S : Addr → Prop} {H : Hp} : ∀ {vs : List V} {ds : List PyData}, DTs H vs ds → DGs S H vs ds
  | _, _, .nil => .nil
  | _, _, .cons h hs => .cons (DG.of h) (DGs.of hs)
end
theorem DG.same {S : Addr → Prop} {H H' : Hp} (e : Same H H') {v : V} {d : PyData} (h : DG S H v d) : DG S H' v d := h.mono (My.Same.tups e) fun a o n q => ⟨n, e a o q⟩
theorem DGs.same {S : Addr → Prop} {H H' : Hp} (e : Same H H') {vs : List V} {ds : List PyData} (h : DGs S H vs ds) : DGs S H' vs ds := h.mono (My.Same.tups e) fun a o n q => ⟨n, e a o q⟩
/-- new addresses are none of the data's -/
theorem DG.new {S : Addr → Prop} {H : Hp} {p : Addr} (hp : H p = none) {v : V} {d : PyData} (h : DG S H v d) : DG (fun a => S a ∨ a = p) H v d :=
  h.mono (fun _ _ e => e) fun a o n e => ⟨fun z => z.elim n (fun z => by rw [z, hp] at e; cases e), e⟩
/-- the built-in type of data -/
def tyD : PyData → String
  | .none => "NoneType"
  | .bool _ => "bool"
  | .int _ => "int"
  | .str _ => "str"
  | .tuple _ => "tuple"
  | .list _ => "list"
  | .dict _ => "dict"
theorem DG.ty {K : PySem.W.Frag} {S : Addr → Prop} {H : Hp} : ∀ {v : V} {d : PyData}, DG S H v d → TyX K H v (.type (tyD d))
  | _, _, .non => .base .non
  | _, _, .bl b => .base (.bl b)
  | _, _, .int i => .base (.int i)
  | _, _, .str x => .base (.str x)
  | _, _, .tup h _ => .base (.tup h)
  | _, _, .lst h _ _ => .base (.lst h)
  | _, _, .dct h _ _ => .base (.dK h)
def isStr : PyData → Bool | .str _ => true | _ => false
def isTup : PyData → Bool | .tuple _ => true | _ => false
def isBoo : PyData → Bool | .bool _ => true | _ => false
theorem kit_str : ∀ d : PyData, kitB (tyD d) "str" = some (isStr d)
  | .none => (by decide +kernel : kitB "NoneType" "str" = some false)
  | .bool _ => (by decide +kernel : kitB "bool" "str" = some false)
  | .int _ => (by decide +kernel : kitB "int" "str" = some false)
  | .str _ => (by decide +kernel : kitB "str" "str" = some true)
  | .tuple _ => (by decide +kernel : kitB "tuple" "str" = some false)
  | .list _ => (by decide +kernel : kitB "list" "str" = some false)
  | .dict _ => (by decide +kernel : kitB "dict" "str" = some false)
theorem kit_tup : ∀ d : PyData, kitB (tyD d) "tuple" = some (isTup d)
  | .none => (by decide +kernel : kitB "NoneType" "tuple" = some false)
  | .bool _ => (by decide +kernel : kitB "bool" "tuple" = some false)
  | .int _ => (by decide +kernel : kitB "int" "tuple" = some false)
  | .str _ => (by decide +kernel : kitB "str" "tuple" = some false)
  | .tuple _ => (by decide +kernel : kitB "tuple" "tuple" = some true)
  | .list _ => (by decide +kernel : kitB "list" "tuple" = some false)
  | .dict _ => (by decide +kernel : kitB "dict" "tuple" = some false)
theorem kit_boo : ∀ d : PyData, kitB (tyD d) "bool" = some (isBoo d)
  | .none => (by decide +kernel : kitB "NoneType" "bool" = some false)
  | .bool _ => (by decide +kernel : kitB "bool" "bool" = some true)
  | .int _ => (by decide +kernel : kitB "int" "bool" = some false)
  | .str _ => (by decide +kernel : kitB "str" "bool" = some false)
  | .tuple _ => (by decide +kernel : kitB "tuple" "bool" = some false)
  | .list _ => (by decide +kernel : kitB "list" "bool" = some false)
  | .dict _ => (by decide +kernel : kitB "dict" "bool" = some false)
/-! ### repr -/
/-- no dict, or a dict of scalars -/
def Flat : PyData → Bool
  | .none | .bool _ | .int _ | .str _ => true
  | .list _ | .tuple _ | .dict _ => false
def Rp (d : PyData) : Prop := d.hasDict = false ∨ ∃ kvs, d = .dict kvs ∧ (kvs.map (·.2)).all Flat = true
mutual
theorem DG.dp {K : PySem.W.Frag} {S : Addr → Prop} {H : Hp} : ∀ {v : V} {d : PyData}, DG S H v d → d.hasDict = false → Dp K H v d
  | _, _, .non, _ => .non
  | _, _, .bl b, _ => .bl b
  | _, _, .int i, _ => .int i
  | _, _, .str x, _ => .str x
  | _, _, .tup h hs, n => .tup (.inl (.inl h)) (DGs.dp hs n)
  | _, _, .lst h _ hs, n => .lst (.inl (.inl h)) (DGs.dp hs n)
  | _, _, .dct h _ hs, n => by cases n
theorem DGs.dp {K : PySem.W.Frag} {S : Addr → Prop} {H : Hp} : ∀ {vs : List V} {ds : List PyData}, DGs S H vs ds → PyData.hasDictAll ds = false → DpAll K H vs ds
  | _, _, .nil, _ => .nil
  | _, _, .cons h hs, n => by
    have n' : (_ || _) = false := n
    rw [Bool.or_eq_false_iff] at n'
    exact .cons (DG.dp h n'.1) (DGs.dp hs n'.2)
end
theorem key_reads {P : Program} {w : World} {h : Heap} (k : Key) (u : Value) (e : (mixKind P w).is k u = true) : Reads h u (kD k) [] := by
  rcases keyIs_shape e with ⟨i, t, rfl, rfl⟩ | ⟨x, t, rfl, rfl⟩
  · exact Reads.int i t
  · exact Reads.str x t
theorem flat_reads {S : Addr → Prop} {H : Hp} {h : Heap} : ∀ {v : V} {d : PyData} {u : Value}, DG S H v d → Flat d = true → RelV v u → Reads h u d []
  | _, _, _, .non, _, r => by cases r; exact Reads.none
  | _, _, _, .bl b, _, r => by cases r; exact Reads.bool b
  | _, _, _, .int i, _, r => by obtain ⟨t, rfl⟩ := r; exact Reads.int i t
  | _, _, _, .str x, _, r => by obtain ⟨t, rfl⟩ := r; exact Reads.str x t
  | _, _, _, .tup _ _, f, _ => by cases f
  | _, _, _, .lst _ _ _, f, _ => by cases f
  | _, _, _, .dct _ _ _, f, _ => by cases f
theorem pairs_read {S : Addr → Prop} {H : Hp} {h : Heap} : ∀ {kvs : List (Key × V)} {ds : List PyData} {us : List (Key × Value)}, KV kvs us → DGs S H (kvs.map (·.2)) ds → ds.all Flat = true → PyProof.V.PairsRead h kD us ((kvs.map fun p => kD p.1).zip ds) []
  | [], _, _, .nil, .nil, _ => .nil
  | (k, v) :: kvs, d :: ds, (k', u) :: us, .cons r t, .cons h1 hs, f => by
    obtain ⟨e, rv⟩ := r
    have e' : k = k' := e
    subst e'
    have f' : (Flat d && ds.all Flat) = true := f
    rw [Bool.and_eq_true] at f'
    exact PyProof.V.PairsRead.cons (as := []) (bs := []) (flat_reads h1 f'.1 rv) (pairs_read t hs f'.2)
section
variable {X : Cx} {pins : List (Addr × Obj)} {σ : L2.St} {H : Hp} {s : Shared} {S : Addr → Prop}
theorem DG.reads (I : Inv X pins σ H s) {v : V} {d : PyData} {u : Value} (h : DG S H v d) (rp : Rp d) (r : RelV v u) : ∃ as, Reads s.heap u d as ∧ (d.hasDict = true → sysModules ∉ as) := by
  rcases rp with n | ⟨kvs, rfl, f⟩
  · obtain ⟨as, q⟩ := Dp.reads I d v u (h.dp n) r
    exact ⟨as, q, fun z => by rw [n] at z; cases z⟩
  · cases h with
    | @dct a kvs ds h n hs =>
      cases r
      obtain ⟨_, hsys, us, hkv, hd⟩ := (show ObjOk X.prog X.w H s.heap a (.dK kvs) from I.hok a _ h)
      have hl : (kvs.map fun p => kD p.1).length = ds.length := by rw [List.length_map, ← hs.length, List.length_map]
      have ef : ((kvs.map fun p => kD p.1).zip ds).map (·.2) = ds := List.map_snd_zip (by omega)
      rw [ef] at f
      refine ⟨_, PyProof.V.reads_dictOf (fun k u e => key_reads k u e) hd (pairs_read hkv hs f), fun _ z => ?_⟩
      have z' := List.mem_singleton.mp z
      rw [z'] at hsys
      simp at hsys
theorem call_reprG (hG : X.A.guards = some []) (hu : X.A.units + 64 < cLine) : CallR X (.builtin "repr") (fun xs H Q => ∃ S x d, xs = [x] ∧ DG S H x d ∧ Rp d ∧ d.showable = true ∧ d.depth ≤ 60 ∧ d.shown.length ≤ sizeLine ∧ Q (.str d.shown) H) := by
  intro pins s σ H xs us Q I r h
  obtain ⟨S, x, d, rfl, hd, rp, hs, hp, hz, q⟩ := h
  obtain ⟨u, rfl, rx⟩ := vals1 r
  obtain ⟨as, rd, sy⟩ := hd.reads I rp rx
  have far : ∀ a, u = .ref a → wpAny (model X.prog X.w) X.A (call (.builtin "repr") [u]) (EP X pins σ Q) X.xe s := fun a e => by
    subst e
    exact repr_of_reads' rd hs sy hG (by omega) (fun _ _ e => e) (fun h' t tk hk => ⟨.str _, H, I.kept hk, ⟨_, rfl⟩, q⟩) hz
  cases hd with
  | non => cases rx; exact PySem.P.repr_of_none ⟨.str _, H, I.tok _, ⟨_, rfl⟩, q⟩
  | bl b => cases rx; exact PySem.P.repr_of_bool ⟨.str _, H, I.tok _, ⟨_, rfl⟩, q⟩
  | int i =>
    obtain ⟨t, rfl⟩ := rx
    exact PySem.P.repr_of_int (by simpa [PyData.showable] using hs) ⟨.str _, H, I.tok _, ⟨_, rfl⟩, q⟩
  | str z =>
    obtain ⟨t, rfl⟩ := rx
    exact PySem.P.repr_of_str ⟨.str _, H, I.tok _, ⟨_, rfl⟩, q⟩ hz
  | tup _ _ => cases rx; exact far _ rfl
  | lst _ _ _ => cases rx; exact far _ rfl
  | dct _ _ _ => cases rx; exact far _ rfl
end
section
variable {X : Cx} {e : Expr} {σ : L2.St} {H : Hp} {Q : VK} {pos p : Pos}
theorem e_reprG (hm : X.mg "repr" = none) (hG : X.A.guards = some []) (hu : X.A.units + 64 < cLine) (h : WE X e σ H fun x H1 => ∃ S d, DG S H1 x d ∧ Rp d ∧ d.showable = true ∧ d.depth ≤ 60 ∧ d.shown.length ≤ sizeLine ∧ Q (.str d.shown) H1) (hg : Gl X "repr" := by rfl)
    (he : starEach [e] X.env = (false, eval e X.env) :: starEach [] X.env := by rfl) (hpl : (backTo pos (starEach [] X.env)).any (·.1) = false := by rfl) : WE X (.Call (.Name "repr" p) [e] [] pos) σ H Q :=
  e_callB (call_reprG hG hu) hm PyProof.Rows.boot_repr (a_cons (WE.mono h fun x H1 ⟨S, d, h1, h2, h3, h4, h5, q⟩ => a_nil ⟨S, x, d, rfl, h1, h2, h3, h4, h5, q⟩) he) hg (by decide) (by decide) he hpl
end
end My

namespace My
open PySem PySem.Spec PyProof.Rows L2
/-! ### displays of constants -/
inductive LitK : List (Option Expr) → List Key → Prop
  | nil : LitK [] []
  | int (i : Int) {j} {p : Pos} {es : List (Option Expr)} {ks : List Key} (r : LitK es ks) : LitK (some (.Constant (.int i) j p) :: es) (.inl i :: ks)
  | str (x : Str) {j} {p : Pos} {es : List (Option Expr)} {ks : List Key} (r : LitK es ks) : LitK (some (.Constant (.str x) j p) :: es) (.inr x :: ks)
mutual
inductive Lit : Expr → PyData → Prop
  | non {j} {p : Pos} : Lit (.Constant .none j p) .none
  | bl (b : Bool) {j} {p : Pos} : Lit (.Constant (.bool b) j p) (.bool b)
  | int (i : Int) {j} {p : Pos} : Lit (.Constant (.int i) j p) (.int i)
  | str (x : Str) {j} {p : Pos} : Lit (.Constant (.str x) j p) (.str x)
  | neg (i : Int) {j} {p q : Pos} : Lit (.UnaryOp .USub (.Constant (.int i) j p) q) (.int (-i))
  | pow (a b : Int) {j j'} {p p' q : Pos} (h : CPow a b) : Lit (.BinOp (.Constant (.int a) j p) .Pow (.Constant (.int b) j' p') q) (.int (a ^ b.toNat))
  | tup {es : List Expr} {k} {p : Pos} {ds : List PyData} (h : Lits es ds) (l : ds.length ≤ sizeLine) : Lit (.Tuple es k p) (.tuple ds)
  | lst {es : List Expr} {p : Pos} {ds : List PyData} (h : Lits es ds) (l : ds.length ≤ sizeLine) : Lit (.List es p) (.list ds)
  | dct0 {p : Pos} : Lit (.Dict [] [] p) (.dict [])
  | dct {keys : List (Option Expr)} {values : List Expr} {p : Pos} {ks : List Key} {ds : List PyData} (h : Lits values ds) (k : LitK keys ks) (n : ks.Nodup) (l : keys.length ≤ 15) (h0 : keys ≠ []) (e : keys.length = values.length) : Lit (.Dict keys values p) (.dict ((ks.map kD).zip ds))
inductive Lits : List Expr → List PyData → Prop
  | nil : Lits [] []
  | cons {e : Expr} {es : List Expr} {d : PyData} {ds : List PyData} (h : Lit e d) (hs : Lits es ds) : Lits (e :: es) (d :: ds)
end
theorem Lit.star {e : Expr} {es : List Expr} {d : PyData} {env : Env} (h : Lit e d) : starEach (e :: es) env = (false, eval e env) :: starEach es env := by
  cases h <;> rfl
theorem Lits.length : ∀ {es : List Expr} {ds : List PyData}, Lits es ds → es.length = ds.length
  | _, _, .nil => rfl
  | _, _, .cons _ hs => congrArg (· + 1) hs.length
theorem LitK.length : ∀ {es : List (Option Expr)} {ks : List Key}, LitK es ks → es.length = ks.length
  | _, _, .nil => rfl
  | _, _, .int _ r => congrArg (· + 1) r.length
  | _, _, .str _ r => congrArg (· + 1) r.length
theorem LitK.all : ∀ {es : List (Option Expr)} {ks : List Key}, LitK es ks → es.all (·.isSome) = true
  | _, _, .nil => rfl
  | _, _, .int _ r => r.all
  | _, _, .str _ r => r.all
def trsOf (X : Cx) : List (Option Expr) → List Expr → List (TE × TE)
  | some k :: ks, v :: vs => (WE X k, WE X v) :: trsOf X ks vs
  | _, _ => []
theorem pps_of {X : Cx} {pos : Pos} : ∀ {keys : List (Option Expr)} {ks : List Key} {values : List Expr}, LitK keys ks → keys.length = values.length → PPs X pos keys values (trsOf X keys values)
  | _, _, [], .nil, _ => pps_nil
  | _, _, v :: vs, .int i r, e => pps_cons pE pE (pps_of r (by simpa using e))
  | _, _, v :: vs, .str i r, e => pps_cons pE pE (pps_of r (by simpa using e))
  | _, _, _ :: _, .nil, e => by cases e
  | _, _, [], .int _ _, e => by cases e
  | _, _, [], .str _ _, e => by cases e
theorem mergeK_new : ∀ (more kvs : List (Key × V)), (more.map (·.1)).Nodup → (∀ p ∈ more, valV kvs p.1 = none) → mergeK kvs more = kvs ++ more
  | [], kvs, _, _ => by show kvs = kvs ++ []; rw [List.append_nil]
  | p :: r, kvs, n, h => by
    have n' := List.nodup_cons.mp n
    have e := putK_new p.2 (h p List.mem_cons_self)
    show mergeK (putK kvs p.1 p.2) r = _
    rw [e, mergeK_new r _ n'.2 fun q hq => ?_]
    · rw [List.append_assoc]; rfl
    · have e2 := valV_snoc p.1 q.1 p.2 kvs (h p List.mem_cons_self)
      have ne : ¬ q.1 = p.1 := fun z => n'.1 (List.mem_map.mpr ⟨q, hq, z⟩)
      rw [e2, if_neg ne]
      exact h q (List.mem_cons_of_mem _ hq)
theorem DG.free {S : Addr → Prop} {H : Hp} {p : Addr} {o : HO} (hp : H p = some (.dK [])) {v : V} {d : PyData} (h : DG (fun a => S a ∨ a = p) H v d) : DG S (upd H p o) v d :=
  h.mono (fun b xs e => by rw [upd_ne (ne_of e hp (fun z => by cases z))]; exact e) fun a o n e => ⟨fun z => n (.inl z), by rw [upd_ne (fun z => n (.inr z))]; exact e⟩
theorem DGs.free {S : Addr → Prop} {H : Hp} {p : Addr} {o : HO} (hp : H p = some (.dK [])) {vs : List V} {ds : List PyData} (h : DGs (fun a => S a ∨ a = p) H vs ds) : DGs S (upd H p o) vs ds :=
  h.mono (fun b xs e => by rw [upd_ne (ne_of e hp (fun z => by cases z))]; exact e) fun a o n e => ⟨fun z => n (.inl z), by rw [upd_ne (fun z => n (.inr z))]; exact e⟩
section
variable {X : Cx}
theorem in_same {S : Addr → Prop} {H H' : Hp} (e : Same H H') (h : ∀ a, S a → H a ≠ none) : ∀ a, S a → H' a ≠ none := fun a s z => by
  cases q : H a with
  | none => exact h a s q
  | some o => rw [e a o q] at z; cases z
mutual
theorem e_lit : ∀ {e : Expr} {d : PyData}, Lit e d → ∀ {S : Addr → Prop} {σ : L2.St} {H : Hp} {Q : VK}, (∀ a, S a → H a ≠ none) → (∀ v H', Same H H' → DG S H' v d → Q v H') → WE X e σ H Q
  | _, _, .non, _, _, _, _, _, q => e_non (q _ _ (Same.refl _) .non)
  | _, _, .bl b, _, _, _, _, _, q => e_bl (q _ _ (Same.refl _) (.bl b))
  | _, _, .int i, _, _, _, _, _, q => e_int (q _ _ (Same.refl _) (.int i))
  | _, _, .str x, _, _, _, _, _, q => e_str (q _ _ (Same.refl _) (.str x))
  | _, _, .neg i, _, _, _, _, _, q => e_un un_neg (e_int ⟨i, rfl, q _ _ (Same.refl _) (.int (-i))⟩)
  | _, _, .pow a b h, _, _, _, _, _, q => e_op op_pow (e_int (e_int ⟨a, b, rfl, rfl, h, q _ _ (Same.refl _) (.int _)⟩))
  | _, _, .tup h l, _, _, _, _, hS, q => e_tup (a_lit h hS fun vs H' s hs => ⟨by rw [hs.length]; exact l, fun p hp => q _ _ (s.trans (same_new hp)) (.tup upd_same (hs.same (same_new hp)))⟩)
  | _, _, .lst h l, S, _, _, _, hS, q => e_lst (a_lit h hS fun vs H' s hs => ⟨by rw [hs.length]; exact l, fun p hp => q _ _ (s.trans (same_new hp)) (.lst upd_same (fun z => in_same s hS p z hp) (hs.same (same_new hp)))⟩)
  | _, _, .dct0, S, _, H, _, hS, q => toE pe_dnewK fun p hp => q _ _ (same_new hp) (DG.dct (kvs := []) (ds := []) upd_same (fun z => hS p z hp) .nil)
  | _, _, .dct (ks := ks) (ds := ds) h k n l h0 e, S, _, H, _, hS, q => toE (pe_disp (pps_of k e) k.all e h0 l) fun p hp => p_lit h k e (S := fun a => S a ∨ a = p) (fun a z => z.elim (fun z w => by
      by_cases ea : a = p
      · exact hS a z (ea ▸ hp)
      · rw [upd_ne ea] at w; exact hS a z w) (fun z w => by rw [z, upd_same] at w; cases w)) fun vs H2 s hs hl => ⟨s _ _ upd_same, ks.zip vs, rfl, by rw [List.length_zip, ← hl, Nat.min_self, ← k.length]; exact l, by
        have ek : ((ks.zip vs).map (·.1)) = ks := List.map_fst_zip (by omega)
        have ev : ((ks.zip vs).map (·.2)) = vs := List.map_snd_zip (by omega)
        rw [mergeK_new _ [] (by rw [ek]; exact n) (fun _ _ => rfl), List.nil_append]
        refine q _ _ (same_mut ((same_new hp).trans s) hp) ?_
        have ed : ((ks.map kD).zip ds) = (((ks.zip vs).map fun p => kD p.1).zip ds) := by
          have : (ks.zip vs).map (fun p => kD p.1) = ((ks.zip vs).map (·.1)).map kD := by rw [List.map_map]; rfl
          rw [this, ek]
        rw [ed]
        refine DG.dct (kvs := ks.zip vs) upd_same (fun z => hS p z hp) ?_
        rw [ev]
        exact hs.free (s _ _ upd_same)⟩
theorem a_lit : ∀ {es : List Expr} {ds : List PyData}, Lits es ds → ∀ {S : Addr → Prop} {σ : L2.St} {H : Hp} {U : List V → Hp → Prop}, (∀ a, S a → H a ≠ none) → (∀ vs H', Same H H' → DGs S H' vs ds → U vs H') → WA X es σ H U
  | _, _, .nil, _, _, _, _, _, q => a_nil (q _ _ (Same.refl _) .nil)
  | _, _, .cons h hs, _, _, _, _, hS, q => a_cons (e_lit h hS fun v H1 s1 h1 => a_lit hs (in_same s1 hS) fun vs H2 s2 h2 => q _ _ (s1.trans s2) (.cons (h1.same s2) h2)) h.star
theorem p_lit : ∀ {values : List Expr} {ds : List PyData}, Lits values ds → ∀ {keys : List (Option Expr)} {ks : List Key}, LitK keys ks → keys.length = values.length → ∀ {S : Addr → Prop} {σ : L2.St} {H : Hp} {Q : List (V × V) → Hp → Prop}, (∀ a, S a → H a ≠ none) →
    (∀ vs H', Same H H' → DGs S H' vs ds → ks.length = vs.length → Q ((ks.zip vs).map fun kv => (kV kv.1, kv.2)) H') → tPairs (trsOf X keys values) σ H Q
  | _, _, .nil, _, _, .nil, _, _, _, _, _, _, q => q [] _ (Same.refl _) .nil rfl
  | _, _, .cons h hs, _, _, .int i r, e, _, _, _, _, hS, q => e_int (e_lit h hS fun v H1 s1 h1 => p_lit hs r (by simpa using e) (in_same s1 hS) fun vs H2 s2 h2 l => q (v :: vs) _ (s1.trans s2) (.cons (h1.same s2) h2) (by simpa using l))
  | _, _, .cons h hs, _, _, .str i r, e, _, _, _, _, hS, q => e_str (e_lit h hS fun v H1 s1 h1 => p_lit hs r (by simpa using e) (in_same s1 hS) fun vs H2 s2 h2 l => q (v :: vs) _ (s1.trans s2) (.cons (h1.same s2) h2) (by simpa using l))
  | _, _, .nil, _, _, .int _ _, e, _, _, _, _, _, _ => by cases e
  | _, _, .nil, _, _, .str _ _, e, _, _, _, _, _, _ => by cases e
  | _, _, .cons _ _, _, _, .nil, e, _, _, _, _, _, _ => by cases e
end
end
end My

namespace My
open PySem PySem.Spec PyProof.Rows L2
/-! ### any data == a text -/
section
open PySem.SeqAt
theorem dict_eq_declines_str (l : Addr) (es : Array DictEntry) (n : Nat) (dd : Option Addr) (sl : Array (Option Value)) (b : Str) (u : Tok) :
    Meets (Builtin.«dict.__eq__» ⟨[.ref l, .str b u], []⟩) (fun _ R s => s.heap.get? l = some { cls := .type "dict", dict := dd, data := .dict es n, slots := sl } ∧ R (.ok (.ret .notImplemented)) s) :=
  .of_wp fun prog w A R s h => by obtain ⟨hp, g, d, tk, os⟩ := s; obtain ⟨hl, h⟩ := h; have f1 := F.sub_str_dict; wp_walk using wpAny_loadPart' hl; exact ⟨_, rfl, h⟩
theorem dict_ne_declines_str (l : Addr) (es : Array DictEntry) (n : Nat) (dd : Option Addr) (sl : Array (Option Value)) (b : Str) (u : Tok) :
    Meets (Builtin.«dict.__ne__» ⟨[.ref l, .str b u], []⟩) (fun _ R s => s.heap.get? l = some { cls := .type "dict", dict := dd, data := .dict es n, slots := sl } ∧ R (.ok (.ret .notImplemented)) s) :=
  .of_wp fun prog w A R s h => by obtain ⟨hp, g, d, tk, os⟩ := s; obtain ⟨hl, h⟩ := h; have f1 := F.sub_str_dict; wp_walk using wpAny_loadPart' hl; exact ⟨_, rfl, h⟩
theorem str_eq_declines_dict (b : Str) (u : Tok) (l : Addr) (c : Value) (es : Array DictEntry) (n : Nat) (dd : Option Addr) (sl : Array (Option Value)) :
    Meets (Builtin.«str.__eq__» ⟨[.str b u, .ref l], []⟩) (fun _ R s => s.heap.get? l = some { cls := c, dict := dd, data := .dict es n, slots := sl } ∧ R (.ok (.ret .notImplemented)) s) :=
  .of_wp fun prog w A R s h => by obtain ⟨hp, g, d, tk, os⟩ := s; obtain ⟨hl, h⟩ := h; wp_walk using wpAny_loadPart' hl, wpAny_load hl; exact ⟨_, rfl, h⟩
theorem str_ne_declines_dict (b : Str) (u : Tok) (l : Addr) (c : Value) (es : Array DictEntry) (n : Nat) (dd : Option Addr) (sl : Array (Option Value)) :
    Meets (Builtin.«str.__ne__» ⟨[.str b u, .ref l], []⟩) (fun _ R s => s.heap.get? l = some { cls := c, dict := dd, data := .dict es n, slots := sl } ∧ R (.ok (.ret .notImplemented)) s) :=
  .of_wp fun prog w A R s h => by obtain ⟨hp, g, d, tk, os⟩ := s; obtain ⟨hl, h⟩ := h; wp_walk using wpAny_loadPart' hl, wpAny_load hl; exact ⟨_, rfl, h⟩
variable {A : Around} {s : Shared}
theorem RcAt_dict_str {l : Addr} {ob : Obj} {es : Array DictEntry} {n : Nat} (b : Str) (u : Tok) (ho : s.heap.get? l = some ob) (hc : ob.cls = .type "dict") (hd : ob.data = .dict es n) (hu : A.units < cLine) : RcAt A s (.ref l) (.str b u) false := fun prog w E Q h => by
  obtain ⟨cls, dd, data, sl⟩ := ob
  simp only at hc hd
  subst hc hd
  exact rc_eq_decline_or (k := false) ⟨_, ho, rfl⟩ (typeIs_str s b u) (by decide) F.sub_str_dict F.slot_dict_eq F.slot_str_eq_refl
    (fun _ hq => call_meets F.slot_dict_eq ⟨_, ho, rfl⟩ F.entry_dict_eq (F.args_dict_eq_2 _ _) (dict_eq_declines_str l es n dd sl b u) ⟨ho, hq⟩)
    (fun _ hq => call_meets F.slot_str_eq_refl (typeIs_str s b u) F.entry_str_eq (F.args_str_eq_2 _ _) (str_eq_declines_dict b u l (.type "dict") es n dd sl) ⟨ho, hq⟩)
    (fun _ hq => wpAny_of_eq (rfl : isSame (.ref l) (.str b u) = pure false) hq) (.inr hu) h
theorem RcNeAt_dict_str {l : Addr} {ob : Obj} {es : Array DictEntry} {n : Nat} (b : Str) (u : Tok) (ho : s.heap.get? l = some ob) (hc : ob.cls = .type "dict") (hd : ob.data = .dict es n) (hu : A.units < cLine) : RcNeAt A s (.ref l) (.str b u) true := fun prog w E Q h => by
  obtain ⟨cls, dd, data, sl⟩ := ob
  simp only at hc hd
  subst hc hd
  exact rc_ne_decline_or (k := false) ⟨_, ho, rfl⟩ (typeIs_str s b u) (by decide) F.sub_str_dict F.slot_dict_ne F.slot_str_ne_refl
    (fun _ hq => call_meets F.slot_dict_ne ⟨_, ho, rfl⟩ F.entry_dict_ne (F.args_dict_ne_2 _ _) (dict_ne_declines_str l es n dd sl b u) ⟨ho, hq⟩)
    (fun _ hq => call_meets F.slot_str_ne_refl (typeIs_str s b u) F.entry_str_ne (F.args_str_ne_2 _ _) (str_ne_declines_dict b u l (.type "dict") es n dd sl) ⟨ho, hq⟩)
    (fun _ hq => wpAny_of_eq (rfl : isSame (.ref l) (.str b u) = pure false) hq) (.inr hu) h
end
def eqS : PyData → Str → Bool | .str y, z => decide (y = z) | _, _ => false
section
variable {X : Cx}
theorem op_eqS (hu : X.A.units + 64 < cLine) : OpR X (compareOp .Eq) (fun x y H Q => ∃ S d z, DG S H x d ∧ y = .str z ∧ Q (.bl (eqS d z)) H) := by
  intro pins s σ H x y v u Q I rx ry h
  obtain ⟨S, d, z, hd, rfl, q⟩ := h
  have sc : scal x (.str z) = true → decide (x = V.str z) = eqS d z → wpAny (model X.prog X.w) X.A (compareOp .Eq v u) (EP X pins σ Q) X.xe s := fun h1 h2 => op_eq pins s σ H x (.str z) v u Q I rx ry ⟨h1, by rw [h2]; exact q⟩
  obtain ⟨t, rfl⟩ := ry
  have fin : PySem.SeqAt.RcAt X.A s v (.str z t) false → eqS d z = false → wpAny (model X.prog X.w) X.A (compareOp .Eq v (.str z t)) (EP X pins σ Q) X.xe s := fun h1 h2 => h1 X.prog X.w X.xe _ ⟨.bl false, H, I, rfl, by rw [← h2]; exact q⟩
  have hu1 : X.A.units < cLine := by omega
  cases hd with
  | non => exact sc rfl (decide_eq_false nofun)
  | bl b => exact sc rfl (decide_eq_false nofun)
  | int i => exact sc rfl (decide_eq_false nofun)
  | str x =>
    refine sc rfl ?_
    apply Bool.eq_iff_iff.mpr
    show _ ↔ decide (x = z) = true
    rw [decide_eq_true_eq, decide_eq_true_eq]
    exact ⟨fun e => by injection e, fun e => by rw [e]⟩
  | tup h _ =>
    cases rx
    obtain ⟨its, rv, ht, _⟩ := I.tuple (.inl (.inl h))
    exact fin (PySem.SeqAt.RcAt.tuple_str z t ht hu1) rfl
  | lst h _ _ =>
    cases rx
    obtain ⟨its, rv, ht, _⟩ := I.list (.inl (.inl h))
    exact fin (PySem.SeqAt.RcAt.list_str z t ht.isList hu1) rfl
  | dct h _ _ =>
    cases rx
    obtain ⟨_, _, us, _, ob, es, ep, ho, hx, hdt, _⟩ := (show ObjOk X.prog X.w H s.heap _ (.dK _) from I.hok _ _ h)
    exact fin (RcAt_dict_str z t ho hx.1 hdt hu1) rfl
theorem op_neS (hu : X.A.units + 64 < cLine) : OpR X (compareOp .NotEq) (fun x y H Q => ∃ S d z, DG S H x d ∧ y = .str z ∧ Q (.bl (!eqS d z)) H) := by
  intro pins s σ H x y v u Q I rx ry h
  obtain ⟨S, d, z, hd, rfl, q⟩ := h
  have sc : scal x (.str z) = true → decide (x = V.str z) = eqS d z → wpAny (model X.prog X.w) X.A (compareOp .NotEq v u) (EP X pins σ Q) X.xe s := fun h1 h2 => op_ne pins s σ H x (.str z) v u Q I rx ry ⟨h1, by rw [h2]; exact q⟩
  obtain ⟨t, rfl⟩ := ry
  have fin : PySem.SeqAt.RcNeAt X.A s v (.str z t) true → eqS d z = false → wpAny (model X.prog X.w) X.A (compareOp .NotEq v (.str z t)) (EP X pins σ Q) X.xe s := fun h1 h2 => h1 X.prog X.w X.xe _ ⟨.bl true, H, I, rfl, by rw [h2] at q; exact q⟩
  have hu1 : X.A.units < cLine := by omega
  cases hd with
  | non => exact sc rfl (decide_eq_false nofun)
  | bl b => exact sc rfl (decide_eq_false nofun)
  | int i => exact sc rfl (decide_eq_false nofun)
  | str x =>
    refine sc rfl ?_
    apply Bool.eq_iff_iff.mpr
    show _ ↔ decide (x = z) = true
    rw [decide_eq_true_eq, decide_eq_true_eq]
    exact ⟨fun e => by injection e, fun e => by rw [e]⟩
  | tup h _ =>
    cases rx
    obtain ⟨its, rv, ht, _⟩ := I.tuple (.inl (.inl h))
    exact fin (PySem.SeqAt.RcNeAt.tuple_str z t ht hu1) rfl
  | lst h _ _ =>
    cases rx
    obtain ⟨its, rv, ht, _⟩ := I.list (.inl (.inl h))
    exact fin (PySem.SeqAt.RcNeAt.list_str z t ht.isList hu1) rfl
  | dct h _ _ =>
    cases rx
    obtain ⟨_, _, us, _, ob, es, ep, ho, hx, hdt, _⟩ := (show ObjOk X.prog X.w H s.heap _ (.dK _) from I.hok _ _ h)
    exact fin (RcNeAt_dict_str z t ho hx.1 hdt hu1) rfl
end
end My

namespace My
open PySem PySem.Spec PyProof.Rows L2
/-! ### repr of data of any depth, with dicts in it -/
theorem keys_shown {h : Heap} (kvs : List (Key × V)) {ds : List PyData} (hl : kvs.length = ds.length) : (((kvs.map fun p => kD p.1).zip ds).map (·.1)) = kvs.map fun p => kD p.1 := List.map_fst_zip (by rw [List.length_map]; omega)
theorem vals_shown (kvs : List (Key × V)) {ds : List PyData} (hl : kvs.length = ds.length) : (((kvs.map fun p => kD p.1).zip ds).map (·.2)) = ds := List.map_snd_zip (by rw [List.length_map]; omega)
theorem readsAll_keys {P : Program} {w : World} {h : Heap} : ∀ {es : List DictEntry} {us : List (Key × Value)}, Pairs (mixKind P w) es us → ReadsAll h (es.map (·.key)) (us.map fun p => kD p.1) []
  | _, _, .nil => .nil
  | _, _, .cons hk hv hp => ReadsAll.cons (as := []) (key_reads _ _ hk) (readsAll_keys hp)
theorem keys_eq : ∀ {kvs : List (Key × V)} {us : List (Key × Value)}, KV kvs us → (us.map fun p => kD p.1) = kvs.map fun p => kD p.1
  | [], _, .nil => rfl
  | (k, v) :: kvs, (k', u) :: us, .cons r t => by
    have e : k = k' := r.1
    rw [List.map_cons, List.map_cons, keys_eq t, e]
theorem vals_of_pairs {P : Program} {w : World} : ∀ {kvs : List (Key × V)} {us : List (Key × Value)} {es : List DictEntry}, KV kvs us → Pairs (mixKind P w) es us → Vals (kvs.map (·.2)) (es.map (·.val))
  | _, _, _, .nil, .nil => .nil
  | _, _, _, .cons r t, .cons hk hv hp => .cons (by show RelV _ (DictEntry.val _); rw [hv]; exact r.2) (vals_of_pairs t hp)
section
variable {X : Cx} {pins : List (Addr × Obj)} {σ : L2.St} {H : Hp} {s : Shared} {S : Addr → Prop}
abbrev Sh (X : Cx) (h : Heap) (d : Nat) (bs : List Addr) (u : Value) (t : Str) : Prop := ReadAtMost h d bs ∧ ReprK X.prog X.w bs h d u t
mutual
theorem DG.shows (I : Inv X pins σ H s) : ∀ {v : V} {d : PyData} {u : Value}, DG S H v d → RelV v u → d.showable = true → d.shown.length ≤ sizeLine → ∃ as bs, Reads s.heap u d as ∧ Sh X s.heap d.depth bs u d.shown
  | _, _, _, .non, r, _, _ => by
    cases r
    exact ⟨_, [], Reads.none, fun _ h => (nomatch h), by simp only [PyData.shown]; exact .of_is ReprIs.none _ _ _⟩
  | _, _, _, .bl b, r, _, _ => by
    cases r
    exact ⟨_, [], Reads.bool b, fun _ h => (nomatch h), by simp only [PyData.shown]; exact .of_is (ReprIs.bool b) _ _ _⟩
  | _, _, _, .int i, r, hs, _ => by
    obtain ⟨t, rfl⟩ := r
    exact ⟨_, [], Reads.int i t, fun _ h => (nomatch h), by simp only [PyData.shown]; exact .of_is (ReprIs.int t (by simpa [PyData.showable] using hs)) _ _ _⟩
  | _, _, _, .str x, r, _, hz => by
    obtain ⟨t, rfl⟩ := r
    exact ⟨_, [], Reads.str x t, fun _ h => (nomatch h), by simp only [PyData.shown]; exact .of_is (ReprIs.str x t (by simpa only [PyData.shown] using hz)) _ _ _⟩
  | _, _, _, .tup (a := a) (ds := ds) h hds, r, hs, hz => by
    cases r
    have hz' : (tupleText (PyData.shownAll ds)).length ≤ sizeLine := by simpa only [PyData.shown] using hz
    obtain ⟨its, rv, ⟨o, ho, hc, n, hd⟩, _⟩ := I.tuple (.inl (.inl h))
    obtain ⟨as, bs, q1, hb, hk⟩ := DGs.shows I hds rv (by simpa [PyData.showable] using hs) fun t ht => Nat.le_trans (tupleText_mem_le ht) hz'
    have rr : Reads s.heap (.ref a) (.tuple ds) _ := .tuple ho hc hd (by simpa using q1)
    have hna : a ∉ bs := not_mem_of_deeper rr (by simp only [PyData.depth]; omega) hb
    refine ⟨_, a :: bs, rr, ReadAtMost.cons rr (by simp only [PyData.depth]; omega) hb, ?_⟩
    simp only [PyData.depth, PyData.shown]
    exact ReprK.tuple ho hc hd hna (by simpa using hk)
  | _, _, _, .lst (a := a) (ds := ds) h _ hds, r, hs, hz => by
    cases r
    have hz' : (listText (PyData.shownAll ds)).length ≤ sizeLine := by simpa only [PyData.shown] using hz
    obtain ⟨its, rv, ⟨o, n, ho, hc, _, hd⟩, _⟩ := I.list (.inl (.inl h))
    obtain ⟨as, bs, q1, hb, hk⟩ := DGs.shows I hds rv (by simpa [PyData.showable] using hs) fun t ht => Nat.le_trans (listText_mem_le ht) hz'
    have rr : Reads s.heap (.ref a) (.list ds) _ := .list ho hc hd (by simpa using q1)
    have hna : a ∉ bs := not_mem_of_deeper rr (by simp only [PyData.depth]; omega) hb
    refine ⟨_, a :: bs, rr, ReadAtMost.cons rr (by simp only [PyData.depth]; omega) hb, ?_⟩
    simp only [PyData.depth, PyData.shown]
    cases its with
    | nil =>
      cases q1
      simp only [PyData.shownAll, listText_nil]
      exact ReprK.listEmpty ho hc hd
    | cons x l => exact ReprK.list ho hc hd hna (by simpa using hk.length_eq) (fun i y e => hk.item i y (by simpa using e))
  | _, _, _, .dct (a := a) (kvs := kvs) (ds := ds) h _ hds, r, hs, hz => by
    cases r
    have hl : kvs.length = ds.length := by have := hds.length; rwa [List.length_map] at this
    obtain ⟨_, hsys, us, hkv, o, es, ep, ho, hx, hdat, _, hp, _⟩ := (show ObjOk X.prog X.w H s.heap a (.dK kvs) from I.hok a _ h)
    have ek := keys_shown (h := s.heap) kvs hl
    have ev := vals_shown kvs hl
    generalize hD : (kvs.map fun p => kD p.1).zip ds = D at hs hz ek ev ⊢
    have hz' : (dictText (PyData.shownKv D)).length ≤ sizeLine := by simpa only [PyData.shown] using hz
    obtain ⟨hs1, hs2⟩ := PyData.showableKv_split D (by simpa [PyData.showable] using hs)
    have k1 : ReadsAll s.heap (es.toList.map (·.key)) (D.map (·.1)) [] := by
      rw [ek, ← keys_eq hkv]
      exact readsAll_keys hp
    obtain ⟨b1, hb1, kk1⟩ := ReprAllK.of_readsAll (prog := X.prog) (w := X.w) k1 hs1 (fun _ hm => (nomatch hm)) (fun t ht => let ⟨p, hp, hl⟩ := PyData.shownKv_key_le D t ht; Nat.le_trans hl (Nat.le_trans (dictText_mem_le hp) hz'))
    obtain ⟨as2, b2, q2, hb2, kk2⟩ := DGs.shows I hds (vals_of_pairs hkv hp) (by rw [← ev]; exact hs2) (fun t ht => by
      rw [← ev] at ht
      obtain ⟨p, hp, hl⟩ := PyData.shownKv_val_le D t ht
      exact Nat.le_trans hl (Nat.le_trans (dictText_mem_le hp) hz'))
    rw [← ev] at q2 hb2 kk2
    have rr : Reads s.heap (.ref a) (.dict D) _ := .dict ho hx.1 hdat k1 q2
    have hb : ReadAtMost s.heap (PyData.depthKv D) (b1 ++ b2) := (hb1.mono (PyData.depthAll_keys_le D)).append (hb2.mono (PyData.depthAll_vals_le D))
    have hna : a ∉ b1 ++ b2 := not_mem_of_deeper rr (by simp only [PyData.depth]; omega) hb
    refine ⟨_, a :: (b1 ++ b2), rr, ReadAtMost.cons rr (by simp only [PyData.depth]; omega) hb, ?_⟩
    simp only [PyData.depth, PyData.shown, PyData.shownKv_eq]
    exact ReprK.dict ho hx.1 hdat hsys hna (ReprEntriesK.of_two es.toList _ _ (kk1.more_le (fun b hb => List.mem_append_left _ hb) (PyData.depthAll_keys_le D)) (kk2.more_le (fun b hb => List.mem_append_right _ hb) (PyData.depthAll_vals_le D)))
theorem DGs.shows (I : Inv X pins σ H s) : ∀ {vs : List V} {ds : List PyData} {us : List Value}, DGs S H vs ds → Vals vs us → PyData.showableAll ds = true → (∀ t ∈ PyData.shownAll ds, t.length ≤ sizeLine) →
    ∃ as bs, ReadsAll s.heap us ds as ∧ ReadAtMost s.heap (PyData.depthAll ds) bs ∧ ReprAllK X.prog X.w bs s.heap (PyData.depthAll ds) us (PyData.shownAll ds)
  | _, _, _, .nil, .nil, _, _ => ⟨_, [], ReadsAll.nil, fun _ h => (nomatch h), by simp only [PyData.shownAll]; exact .nil⟩
  | _, _, _, .cons (d := d) (ds := ds) h hds, .cons r rs, hs, hz => by
    have hs' : d.showable = true ∧ PyData.showableAll ds = true := by simpa [PyData.showableAll] using hs
    obtain ⟨a1, b1, q1, hb1, k1⟩ := DG.shows I h r hs'.1 (hz _ (by simp only [PyData.shownAll]; exact List.mem_cons_self ..))
    obtain ⟨a2, b2, q2, hb2, k2⟩ := DGs.shows I hds rs hs'.2 (fun t ht => hz t (by simp only [PyData.shownAll]; exact List.mem_cons_of_mem _ ht))
    refine ⟨_, b1 ++ b2, ReadsAll.cons q1 q2, (hb1.mono ?_).append (hb2.mono ?_), ?_⟩
    · simp only [PyData.depthAll]; exact Nat.le_max_left _ _
    · simp only [PyData.depthAll]; exact Nat.le_max_right _ _
    · simp only [PyData.depthAll, PyData.shownAll]
      exact .cons ((k1.more fun b hb => List.mem_append_left _ hb).level_le (Nat.le_max_left _ _)) (k2.more_le (fun b hb => List.mem_append_right _ hb) (Nat.le_max_right _ _))
end
/-- repr of any data -/
theorem call_reprA (hG : X.A.guards = some []) (hu : X.A.units + 64 < cLine) : CallR X (.builtin "repr") (fun xs H Q => ∃ S x d, xs = [x] ∧ DG S H x d ∧ d.showable = true ∧ d.depth ≤ 60 ∧ d.shown.length ≤ sizeLine ∧ Q (.str d.shown) H) := by
  intro pins s σ H xs us Q I r h
  obtain ⟨S, x, d, rfl, hd, hs, hp, hz, q⟩ := h
  obtain ⟨u, rfl, rx⟩ := vals1 r
  have fin : ∀ {h' : Heap} {t : Tok} {tk : Nat}, (∀ b o, s.heap.get? b = some o → h'.get? b = some o) → EP X pins σ Q (.str d.shown t) { s with heap := h', toks := tk } := fun {h' t tk} hk => ⟨.str _, H, I.kept hk, ⟨_, rfl⟩, q⟩
  have clear : ∀ b ∈ ([] : List Addr), Clear ([] : List Code) b := fun b z => nomatch z
  cases hd with
  | non => cases rx; exact PySem.P.repr_of_none ⟨.str _, H, I.tok _, ⟨_, rfl⟩, q⟩
  | bl b => cases rx; exact PySem.P.repr_of_bool ⟨.str _, H, I.tok _, ⟨_, rfl⟩, q⟩
  | int i =>
    obtain ⟨t, rfl⟩ := rx
    exact PySem.P.repr_of_int (by simpa [PyData.showable] using hs) ⟨.str _, H, I.tok _, ⟨_, rfl⟩, q⟩
  | str z =>
    obtain ⟨t, rfl⟩ := rx
    exact PySem.P.repr_of_str ⟨.str _, H, I.tok _, ⟨_, rfl⟩, q⟩ hz
  | @tup a xs ds h hds =>
    cases rx
    have hz' : (tupleText (PyData.shownAll ds)).length ≤ sizeLine := by simpa only [PyData.shown] using hz
    obtain ⟨its, rv, ⟨o, ho, hc, n, hd⟩, _⟩ := I.tuple (.inl (.inl h))
    obtain ⟨as, bs, q1, hb, hk⟩ := DGs.shows I hds rv (by simpa [PyData.showable] using hs) fun t ht => Nat.le_trans (tupleText_mem_le ht) hz'
    have rr : Reads s.heap (.ref a) (.tuple ds) _ := .tuple ho hc hd (by simpa using q1)
    have hna : a ∉ bs := not_mem_of_deeper rr (by simp only [PyData.depth]; omega) hb
    have hp' : PyData.depthAll ds + 1 ≤ 60 := hp
    refine call_repr_slot (by omega) ⟨o, ho, hc⟩ F.slot_tuple_repr (call_tuple_reprK (h₀ := s.heap) ho hc hd hna (by simpa using hk) (A := X.A.in1) hG (fun b _ => Clear.nil b) (by show X.A.units + 1 + _ < cLine; omega) (fun _ _ e => e) (fun h' u tk hk2 => ⟨_, _, rfl, ?_⟩) hz')
    exact fin hk2
  | @lst a xs ds h nS hds =>
    cases rx
    have hz' : (listText (PyData.shownAll ds)).length ≤ sizeLine := by simpa only [PyData.shown] using hz
    obtain ⟨its, rv, ⟨o, n, ho, hc, _, hd⟩, _⟩ := I.list (.inl (.inl h))
    obtain ⟨as, bs, q1, hb, hk⟩ := DGs.shows I hds rv (by simpa [PyData.showable] using hs) fun t ht => Nat.le_trans (listText_mem_le ht) hz'
    have rr : Reads s.heap (.ref a) (.list ds) _ := .list ho hc hd (by simpa using q1)
    have hna : a ∉ bs := not_mem_of_deeper rr (by simp only [PyData.depth]; omega) hb
    have hp' : PyData.depthAll ds + 1 ≤ 60 := hp
    cases its with
    | nil =>
      cases q1
      refine call_repr_slot (by omega) ⟨o, ho, hc⟩ F.slot_list_repr.toG (call_list_repr_empty ⟨o, ho, hc⟩ ho hd ⟨_, _, rfl, ?_⟩)
      have e : (PyData.list []).shown = "[]" := by simp only [PyData.shown, PyData.shownAll, listText_nil]
      rw [e] at q
      exact ⟨.str _, H, I.tok _, ⟨_, rfl⟩, q⟩
    | cons x l =>
      refine call_repr_slot (by omega) ⟨o, ho, hc⟩ F.slot_list_repr.toG (call_list_reprK (h₀ := s.heap) ho hc hd hna (by simpa using hk.length_eq) (fun i y e => hk.item i y (by simpa using e)) (A := X.A.in1) hG (fun b _ => Clear.nil b) (by show X.A.units + 1 + _ < cLine; omega) (fun _ _ e => e) (fun h' u tk hk2 => ⟨_, _, rfl, ?_⟩) hz')
      exact fin hk2
  | @dct a kvs ds h nS hds =>
    cases rx
    have hl : kvs.length = ds.length := by have := hds.length; rwa [List.length_map] at this
    obtain ⟨_, hsys, us, hkv, o, es, ep, ho, hx, hdat, _, hpp, _⟩ := (show ObjOk X.prog X.w H s.heap a (.dK kvs) from I.hok a _ h)
    have ek := keys_shown (h := s.heap) kvs hl
    have ev := vals_shown kvs hl
    generalize hD : (kvs.map fun p => kD p.1).zip ds = D at hs hz hp q ek ev fin ⊢
    have hz' : (dictText (PyData.shownKv D)).length ≤ sizeLine := by simpa only [PyData.shown] using hz
    obtain ⟨hs1, hs2⟩ := PyData.showableKv_split D (by simpa [PyData.showable] using hs)
    have k1 : ReadsAll s.heap (es.toList.map (·.key)) (D.map (·.1)) [] := by
      rw [ek, ← keys_eq hkv]
      exact readsAll_keys hpp
    obtain ⟨b1, hb1, kk1⟩ := ReprAllK.of_readsAll (prog := X.prog) (w := X.w) k1 hs1 (fun _ hm => (nomatch hm)) (fun t ht => let ⟨p, hp, hl⟩ := PyData.shownKv_key_le D t ht; Nat.le_trans hl (Nat.le_trans (dictText_mem_le hp) hz'))
    obtain ⟨as2, b2, q2, hb2, kk2⟩ := DGs.shows I hds (vals_of_pairs hkv hpp) (by rw [← ev]; exact hs2) (fun t ht => by
      rw [← ev] at ht
      obtain ⟨p, hp, hl⟩ := PyData.shownKv_val_le D t ht
      exact Nat.le_trans hl (Nat.le_trans (dictText_mem_le hp) hz'))
    rw [← ev] at q2 hb2 kk2
    have rr : Reads s.heap (.ref a) (.dict D) _ := .dict ho hx.1 hdat k1 q2
    have hb : ReadAtMost s.heap (PyData.depthKv D) (b1 ++ b2) := (hb1.mono (PyData.depthAll_keys_le D)).append (hb2.mono (PyData.depthAll_vals_le D))
    have hna : a ∉ b1 ++ b2 := not_mem_of_deeper rr (by simp only [PyData.depth]; omega) hb
    have hp' : PyData.depthKv D + 1 ≤ 60 := hp
    refine call_repr_slot (by omega) ⟨o, ho, hx.1⟩ F.slot_dict_repr (call_dict_reprK (h₀ := s.heap) ho hx.1 hdat hsys hna (ReprEntriesK.of_two es.toList _ _
      (kk1.more_le (fun b hb => List.mem_append_left _ hb) (PyData.depthAll_keys_le D)) (kk2.more_le (fun b hb => List.mem_append_right _ hb) (PyData.depthAll_vals_le D))) (A := X.A.in1) hG (fun b _ => Clear.nil b) (by show X.A.units + 1 + _ < cLine; omega) (fun _ _ e => e) (fun h' u tk hk2 => ⟨_, _, rfl, ?_⟩) (by rw [← PyData.shownKv_eq]; exact hz'))
    have := fin (t := u) (tk := tk) hk2
    simpa only [PyData.shown, PyData.shownKv_eq] using this
end
section
variable {X : Cx} {e : Expr} {σ : L2.St} {H : Hp} {Q : VK} {pos p : Pos}
theorem e_reprA (hm : X.mg "repr" = none) (hG : X.A.guards = some []) (hu : X.A.units + 64 < cLine) (h : WE X e σ H fun x H1 => ∃ S d, DG S H1 x d ∧ d.showable = true ∧ d.depth ≤ 60 ∧ d.shown.length ≤ sizeLine ∧ Q (.str d.shown) H1) (hg : Gl X "repr" := by rfl)
    (he : starEach [e] X.env = (false, eval e X.env) :: starEach [] X.env := by rfl) (hpl : (backTo pos (starEach [] X.env)).any (·.1) = false := by rfl) : WE X (.Call (.Name "repr" p) [e] [] pos) σ H Q :=
  e_callB (call_reprA hG hu) hm PyProof.Rows.boot_repr (a_cons (WE.mono h fun x H1 ⟨S, d, h1, h3, h4, h5, q⟩ => a_nil ⟨S, x, d, rfl, h1, h3, h4, h5, q⟩) he) hg (by decide) (by decide) he hpl
end
end My

namespace My
open PySem PySem.Spec PyProof.Rows L2
/-! ### sorted of a tuple of texts -/
section
variable {P : Program} {w : World} {A : Around} {E : Value → Shared → Prop} {z : Shared} {a : Addr} {us : List Value}
theorem gather_tup {Q : List Value → Shared → Prop} (ht : z.heap.IsTuple a us.toArray) (hn : us.length ≤ sizeLine)
    (k : Q us { z with heap := (z.heap.push (seqObj "list" #[] 0)).update z.heap.objs.size (Obj.mapSeq (· ++ us.toArray)) }) : wpAny (model P w) A (collect (.ref a)) Q E z := by
  obtain ⟨ob, hob, hcl, m, hda⟩ := id ht
  have hob2 : (z.heap.push (seqObj "list" #[] 0)).get? a = some ob := Heap.get?_push_of_some _ hob
  have hnew : (z.heap.push (seqObj "list" #[] 0)).get? z.heap.objs.size = some (seqObj "list" #[] 0) := Heap.get?_push_size _ rfl
  unfold collect
  refine wpAny_bind (wpAny_runValue (codeAny_builtin entry_proto_collect' ?_))
  show wpAny _ _ (do again (.builtin "list.__iadd__" ⟨[← newList [], .ref a], []⟩)) _ _ z
  refine wpAny_bind (wpAny_newList (wpAny_pure ⟨Code.quiet_builtin _ (by decide +kernel), codeAny_builtin entry_list_iadd' ?_⟩))
  show wpAny _ _ (Builtin.List.listExtendWith (.ref z.heap.objs.size) (.ref a) (.ref z.heap.objs.size)) _ _ { z with heap := z.heap.push (seqObj "list" #[] 0) }
  unfold Builtin.List.listExtendWith
  refine wpAny_bind (wpAny_typeOf (T := "tuple") ⟨ob, hob2, hcl⟩ ?_)
  have ett : (Value.type "tuple" == Value.type "tuple") = true := by decide
  rw [if_pos (by rw [ett]; simp)]
  refine wpAny_bind (listItems_at hob2 hda ?_)
  refine wpAny_bind (listItems_at hnew rfl ?_)
  rw [if_neg (by simp)]
  refine wpAny_bind (listUpdate_at hnew rfl ?_ (Nat.zero_le _) (by show (#[] ++ us.toArray).size ≤ sizeLine + 1; rw [Array.size_append, List.size_toArray]; show 0 + us.length ≤ _; omega))
  refine wpAny_pure ?_
  refine wpAny_bind (wpAny_load (get?_update_seq hnew _) ?_)
  show wpAny _ _ (pure ((#[] : Array Value) ++ us.toArray).toList) Q E _
  have e : ((#[] : Array Value) ++ us.toArray).toList = us := by simp
  rw [e]
  exact wpAny_pure k
theorem sorted_tup {xs : List Str} {Q : Value → Shared → Prop} (ht : z.heap.IsTuple a us.toArray) (hs : StrsAre us xs) (h64 : us.length < 64)
    (k : ∀ (out : Array Value) (ys : List Str), StrsAre out.toList ys → ys.Perm xs → sortedS ys = true → Q (.ref (z.heap.objs.size + 1)) { z with heap := sortedAll z.heap us out }) : wpAny (model P w) A (call (.builtin "sorted") [.ref a]) Q E z := by
  refine Calls.call_function_entry kind_sorted plain_sorted entry_sorted (args_sorted1 _) ?_
  unfold Builtin.«sorted»
  refine wpAny_bind (m := checkCount "sorted" 1 1 _) (wpAny_pure ?_)
  refine wpAny_bind (gather_tup ht (Nat.le_trans (Nat.le_of_lt h64) (by decide)) ?_)
  refine wpAny_bind (wpAny_newList ?_)
  have hsz : ((z.heap.push (seqObj "list" #[] 0)).update z.heap.objs.size (Obj.mapSeq (· ++ us.toArray))).objs.size = z.heap.objs.size + 1 := by rw [Heap.size_update, size_push']
  have hL : (((z.heap.push (seqObj "list" #[] 0)).update z.heap.objs.size (Obj.mapSeq (· ++ us.toArray))).push (seqObj "list" us.toArray 0)).get? (z.heap.objs.size + 1) = some (seqObj "list" us.toArray 0) := by rw [← hsz]; exact Heap.get?_push_size _ rfl
  show wpAny _ _ _ _ _ { z with heap := ((z.heap.push (seqObj "list" #[] 0)).update z.heap.objs.size (Obj.mapSeq (· ++ us.toArray))).push (seqObj "list" us.toArray 0) }
  rw [hsz]
  refine wpAny_bind (wpAny_holding (wpAny_call_entry slot_list_sort ⟨_, hL, rfl⟩ entry_list_sort (list_sort_treeK strKind_oneLt hL hs.keysOf (fun v1 v2 r e => keyKind_strs (by rw [← e]; exact hs)) h64 fun st hp hst => ⟨_, rfl, ?_⟩) (args_list_sort _)))
  obtain ⟨ys, h1, h2, h3⟩ := sorted_out_str hs hp hst
  exact wpAny_pure ⟨_, rfl, k _ ys h1 h2 h3⟩
end
section
variable {X : Cx}
theorem cr_sortedTS : CallR X (.builtin "sorted") (fun vs H Q => ∃ (a : Addr) (xs : List Str), vs = [V.ref a] ∧ SqT X.K H a (xs.map V.str) ∧ xs.length < 64 ∧ ∀ (ys : List Str) (p : Addr), ys.Perm xs → sortedS ys = true → H p = none → Q (.ref p) (upd H p (.lst (ys.map V.str)))) := by
  intro pins s σ H vs us Q I r h
  obtain ⟨a, xs, rfl, hs, h64, q⟩ := h
  obtain ⟨its, rv, ht, _⟩ := I.tuple hs
  obtain ⟨u, rfl, ru⟩ := vals1 r
  cases ru
  have hl := rv.length
  rw [List.length_map] at hl
  refine sorted_tup ht rv.strs (by omega) fun out ys h1 h2 h3 => ?_
  obtain ⟨ep, he⟩ := sortedAll_at s.heap its out
  have hlen : (ys.map V.str).length ≤ sizeLine := by rw [List.length_map, h2.length_eq]; exact small64 h64
  exact ⟨.ref _, upd H (s.heap.objs.size + 1) (.lst (ys.map V.str)), I.laid (t' := s.toks) (fun _ _ => sortedAll_old) (Nat.le_succ _) ⟨hlen, out.toList, ep, vals_of_strs h1, he⟩, rfl, q ys _ h2 h3 (I.hok.fresh (Nat.le_succ _))⟩
end
end My

namespace My
open PySem PySem.Spec PyProof.Rows L2
/-! ### len(set(texts)) -/
/-- how many different texts stand among the first i -/
def cnt (xs : List Str) : Nat → Nat
  | 0 => 0
  | i + 1 => if (xs.take i).any (· == xs.getD i Str.empty) then cnt xs i else cnt xs i + 1
theorem cnt_le (xs : List Str) : ∀ i, cnt xs i ≤ i
  | 0 => Nat.le_refl _
  | i + 1 => by
    have := cnt_le xs i
    have e : cnt xs (i + 1) = if (xs.take i).any (· == xs.getD i Str.empty) then cnt xs i else cnt xs i + 1 := rfl
    rw [e]
    split
    · exact Nat.le_succ_of_le this
    · exact Nat.succ_le_succ this
theorem take_one {xs : List Str} {i : Nat} (h : i < xs.length) : xs.take (i + 1) = xs.take i ++ [xs.getD i Str.empty] := by
  have e : xs.getD i Str.empty = xs[i] := by rw [List.getD_eq_getElem?_getD, List.getElem?_eq_getElem h]; rfl
  rw [e, List.take_succ_eq_append_getElem h]
theorem cnt_nodup (xs : List Str) : ∀ i, i ≤ xs.length → (cnt xs i = i ↔ (xs.take i).Nodup)
  | 0, _ => by simp [cnt]
  | i + 1, h => by
    have ih := cnt_nodup xs i (by omega)
    have hle := cnt_le xs i
    have hlt : i < xs.length := by omega
    rw [take_one hlt]
    show ((if (xs.take i).any (· == xs.getD i Str.empty) then cnt xs i else cnt xs i + 1) = i + 1) ↔ _
    rw [List.nodup_append]
    by_cases c : (xs.take i).any (· == xs.getD i Str.empty) = true
    · rw [if_pos c]
      constructor
      · intro e; omega
      · intro ⟨_, _, n⟩
        obtain ⟨y, hy, e⟩ := List.any_eq_true.mp c
        exact absurd (eq_of_beq e) (n y hy _ (List.mem_singleton.mpr rfl))
    · rw [if_neg c]
      constructor
      · intro e
        refine ⟨ih.mp (by omega), by simp, fun y hy z hz e2 => c (List.any_eq_true.mpr ⟨y, hy, ?_⟩)⟩
        rw [List.mem_singleton.mp hz] at e2
        rw [e2]; exact beq_self_eq_true _
      · intro ⟨n, _, _⟩
        rw [ih.mpr n]
section
variable {P : Program} {w : World} {A : Around} {R : Result → Shared → Prop} {I S : Addr} {fp wr : List Addr} {G : Array GenState → Array GenState → Prop} {n : Nat} {Pi : Nat → Value → Prop} {St : Nat → Shared → Prop}
abbrev Holds (P : Program) (w : World) (h : Heap) (S : Addr) (xs : List Str) (i : Nat) : Prop := h.SetOf (PySem.strKind P w) S (fun k => (xs.take i).any (· == k)) (cnt xs i)
theorem Holds.at {h h' : Heap} {xs : List Str} {i : Nat} (x : Holds P w h S xs i) (k : ∀ o, h.get? S = some o → h'.get? S = some o) : Holds P w h' S xs i := by
  obtain ⟨o, es, ep, tb, ho, more⟩ := x
  exact ⟨o, es, ep, tb, k o ho, more⟩
theorem set_turns (W : WalksS P w A.in1 I fp wr G n Pi St) (nS : S ∉ fp) (xs : List Str) (hn : xs.length = n) (h64 : n ≤ 1000) (hv : ∀ i v, Pi i v → ∃ t, v = .str (xs.getD i Str.empty) t) :
    ∀ (m i : Nat) (z : Shared), i + m = n → St i z → Holds P w z.heap S xs i →
      (∀ z', Moved (S :: wr) G z z' → Holds P w z'.heap S xs n → R (.ok (.ret .none)) z') → codeAny (model P w) A (.builtin "set.update.loop" ⟨[.ref S, .ref I], []⟩) R z := by
  have nSw : S ∉ wr := fun h => nS (W.sub _ h)
  have more : ∀ b ∈ wr, b ∈ S :: wr := fun b hb => List.mem_cons_of_mem _ hb
  intro m
  induction m with
  | zero =>
    intro i z hi st hS k
    have ei : i = n := by omega
    subst ei
    refine codeAny_builtin PyProof.Rows.F.entry_set_update_loop ?_
    rw [Around.under_plainId PyProof.Rows.F.plain_set_update_loop _]
    show wpAny _ A.in1 (pyNext (.ref I) >>= _) _ _ z
    refine wpAny_bind (W.done z _ _ st fun z' mv => ?_)
    show wpAny _ A.in1 (ret Value.none) _ _ z'
    exact wpAny_pure (k z' (mv.mono more) (hS.at fun o ho => mv.heap S _ nSw ho))
  | succ m ih =>
    intro i z hi st hS k
    have hlt : i < n := by omega
    refine codeAny_builtin PyProof.Rows.F.entry_set_update_loop ?_
    rw [Around.under_plainId PyProof.Rows.F.plain_set_update_loop _]
    show wpAny _ A.in1 (pyNext (.ref I) >>= _) _ _ z
    refine wpAny_bind (W.item i z _ _ hlt st fun v z' hP st' mv => ?_)
    obtain ⟨t, rfl⟩ := hv i v hP
    have hS' : Holds P w z'.heap S xs i := hS.at fun o ho => mv.heap S _ nSw ho
    show wpAny _ A.in1 (holding [Value.str (xs.getD i Str.empty) t] (setAdd S (.str (xs.getD i Str.empty) t)) >>= _) _ _ z'
    refine wpAny_bind (wpAny_holding ?_)
    unfold setAdd
    refine wpAny_holding (wpAny_bind ((PySem.strKind P w).pyHash (k := xs.getD i Str.empty) (strKind_is _ _ _ _) ?_))
    refine wpAny_setAddHashed_of (knd := PySem.strKind P w) (s := { z' with toks := z'.toks + 1 }) (strKind_is _ _ _ _) rfl hS' (by have := cnt_le xs i; unfold scanBound; omega) fun h' only hS2 => ?_
    have hSi : Holds P w h' S xs (i + 1) := by
      refine SetOf_congr hS2 (fun y => ?_) rfl
      show ((xs.take i).any (· == y) || decide (y = xs.getD i Str.empty)) = (xs.take (i + 1)).any (· == y)
      rw [take_one (by omega), List.any_append]
      have e : [xs.getD i Str.empty].any (· == y) = decide (y = xs.getD i Str.empty) := by
        by_cases e : y = xs.getD i Str.empty
        · subst e; simp
        · have hb : (xs.getD i Str.empty == y) = false := beq_eq_false_iff_ne.mpr fun q => e q.symm
          rw [decide_eq_false e]
          show ((xs.getD i Str.empty == y) || false) = false
          rw [hb]; rfl
      rw [e]
    refine wpAny_pure ⟨plainId_quiet PyProof.Rows.F.plain_set_update_loop _, ih (i + 1) _ (by omega) (W.frame _ z' _ _ st' (Nat.le_succ _) fun b hb o e => ?_) hSi fun z2 mv2 hS3 => ?_⟩
    · rw [only.2 b fun q : b = S => nS (by rw [← q]; exact hb)]; exact e
    · refine k z2 (Moved.trans W.gtrans ((mv.mono more).then_heap (Nat.le_succ _) fun b o hb e => ?_) mv2) hS3
      rw [only.2 b fun q : b = S => hb (by rw [q]; exact List.mem_cons_self)]; exact e
end
section
variable {P : Program} {w : World} {A : Around} {E : Value → Shared → Prop} {z : Shared}
abbrev set0 (led : Bool) : Obj := { cls := .type "set", dict := none, data := .set #[] 0 (.fresh 0 0 led) }
set_option maxHeartbeats 4000000 in
theorem make_set {a : Addr} {us : Array Value} {xs : List Str} {Q : Value → Shared → Prop} (calm : A.handled = none) (hseq : z.heap.IsList a us ∨ z.heap.IsTuple a us) (hi : StrsAre us.toList xs) (h1000 : xs.length ≤ 1000)
    (k : ∀ (h' : Heap) (tk : Nat), Holds P w h' z.heap.objs.size xs xs.length → (∀ b o, b < z.heap.objs.size → z.heap.get? b = some o → h'.get? b = some o) → Q (.ref z.heap.objs.size) { z with heap := h', toks := tk }) :
    wpAny (model P w) A (call (.type "set") [.ref a]) Q E z := by
  obtain ⟨c, tl, hmro⟩ := PySem.F.called_set.mro
  have hmade := PySem.F.called_set.made
  have hsub := PySem.F.called_set.sub
  have hsz : xs.length = us.size := by rw [← StrsAre.len_eq hi, Array.length_toList]
  have hval : ∀ (i : Nat) (v : Value), us[i]? = some v → ∃ t, v = .str (xs.getD i Str.empty) t := fun i v hv => SS.strs_at hi i v (by rw [Array.getElem?_toList]; exact hv)
  refine wpAny_call (codeAny_of_tree ?_)
  show wpAny _ _ (callAny (.type "set") _) _ _ _
  refine wpAny_pure ⟨Code.quiet_builtin _ (by decide +kernel), codeAny_builtin PySem.F.entry_type_call ?_⟩
  rw [Around.under_plain (weight_type_call_type "set" [.ref a] []) rfl]
  have t1 := PySem.F.called_set.notType
  have t2 := PySem.F.called_set.canCreate
  have t3 := PySem.F.typeCall_set_1 (.ref a)
  repeat (any_goals (first | assumption | wp_step))
  refine codeAny_mono (code_set_new_1 (.ref a) (E := E) (Q₁ := fun ob z1 => ∃ led : Bool, ob = .ref z.heap.objs.size ∧ z1 = { z with heap := z.heap.push (set0 led) }) fun led => ⟨led, rfl, rfl⟩) fun r z1 hr => ?_
  cases r with
  | error e => exact hr
  | ok fl =>
    cases fl with
    | next => exact hr.elim
    | brk => exact hr.elim
    | cont => exact hr.elim
    | ret ob =>
      obtain ⟨led, rfl, rfl⟩ := hr
      have hS : (z.heap.push (set0 led)).get? z.heap.objs.size = some (set0 led) := Heap.get?_push_size _ rfl
      have hT : Shared.TypeIs { z with heap := z.heap.push (set0 led) } (.ref z.heap.objs.size) "set" := ⟨_, hS, rfl⟩
      have hli := PySem.F.called_set.init.lookup
      have hbi := PySem.F.called_set.init.bind (.ref z.heap.objs.size)
      repeat (any_goals (first | assumption | wp_step))
      refine codeAny_mono (codeAny_call_builtin (R := wants (fun r z2 => r = .none ∧ ∃ h' tk, z2 = { z with heap := h', toks := tk } ∧ Holds P w h' z.heap.objs.size xs xs.length ∧
          (∀ b o, b < z.heap.objs.size → z.heap.get? b = some o → h'.get? b = some o)) E) PySem.F.called_set.init.plain PySem.F.entry_set_init (check_set_init_1 hT ?_)) fun r2 z2 hr2 => ?_
      · have fin : ∀ (T : String) (ob0 : Obj), a < z.heap.objs.size → ∀ z3 : Shared, Moved (z.heap.objs.size :: [(z.heap.push (set0 led)).objs.size]) (fun a b => b = a) { z with heap := (z.heap.push (set0 led)).push ob0 } z3 →
            Holds P w z3.heap z.heap.objs.size xs us.size → wants (fun r z2 => r = .none ∧ ∃ h' tk, z2 = { z with heap := h', toks := tk } ∧ Holds P w h' z.heap.objs.size xs xs.length ∧
              (∀ b o, b < z.heap.objs.size → z.heap.get? b = some o → h'.get? b = some o)) E (.ok (.ret .none)) z3 := by
          intro T ob0 ha z3 mv hS3
          obtain ⟨h', g', d', tk', os'⟩ := z3
          have e1 : g' = z.gens := mv.gens
          have e2 : d' = z.drawn := mv.drawn
          have e3 : os' = z.os := mv.os
          subst e1; subst e2; subst e3
          refine ⟨rfl, h', tk', rfl, by rw [hsz]; exact hS3, fun b o hb e => mv.heap b o (fun q => ?_) (Heap.get?_push_of_some _ (Heap.get?_push_of_some _ e))⟩
          rcases List.mem_cons.mp q with q | q
          · exact absurd q (Nat.ne_of_lt hb)
          · have q := List.mem_singleton.mp q
            rw [Heap.size_push] at q
            exact absurd q (Nat.ne_of_lt (Nat.lt_succ_of_lt hb))
        have calm3 : A.in1.in1.in1.handled = none := by simp [calm]
        have start : ∀ ob0 : Obj, Holds P w ((z.heap.push (set0 led)).push ob0) z.heap.objs.size xs 0 := fun ob0 =>
          SetOf_congr ((setObjOf_fresh (knd := PySem.strKind P w) led).setOf (Heap.get?_push_of_some _ hS) (by unfold scanBound; omega)) (fun _ => rfl) rfl
        rcases hseq with hl | hl
        · obtain ⟨⟨oc, od, oda, osl⟩, hol, hcl, nl, hdl⟩ := hl
          simp only at hcl hdl
          subst hcl; subst hdl
          have hlt : a < z.heap.objs.size := Heap.lt_size hol
          have hol' := Heap.get?_push_of_some (set0 led) hol
          have hsls := PySem.F.sub_list_set
          have hslf := PySem.F.sub_list_frozenset
          have hne : (Value.type "list" == Value.type "dict") = false := by decide
          have hl1 : (z.heap.push (set0 led)).IsList a us := ⟨_, hol', rfl, nl, rfl⟩
          unfold Builtin.«set.__init__» noKeywords Builtin.Frozenset.updateFrom
          generalize hPI : pyIter = PI
          wp_walk
          subst hPI
          refine wpAny_pyIter_list hl1 (wpAny_bind (wpAny_runValue ?_))
          have n1 : a ≠ (z.heap.push (set0 led)).objs.size := by rw [Heap.size_push]; exact Nat.ne_of_lt (Nat.lt_succ_of_lt hlt)
          have n2 : z.heap.objs.size ∉ [(z.heap.push (set0 led)).objs.size, a] := by
            rw [Heap.size_push]; simp only [List.mem_cons, List.not_mem_nil, or_false, not_or]; exact ⟨Nat.ne_of_lt (Nat.lt_succ_self _), Nat.ne_of_gt hlt⟩
          refine set_turns ((Walks.list calm3 _ a n1 us).toS) n2 xs hsz (by omega) hval us.size 0 _ (by omega) ⟨⟨_, Heap.get?_push_size _ rfl, rfl, rfl⟩, (hl1.push _)⟩ (start _) fun z3 mv hS3 => ?_
          obtain ⟨_, h', tk, rfl, q1, q2⟩ := fin "list" _ hlt z3 mv hS3
          show wpAny _ _ _ _ _ _
          refine wpAny_pure ?_
          show wpAny _ _ (ret Value.none) _ _ _
          exact wpAny_pure ⟨rfl, h', tk, rfl, q1, q2⟩
        · obtain ⟨⟨oc, od, oda, osl⟩, hol, hcl, nl, hdl⟩ := hl
          simp only at hcl hdl
          subst hcl; subst hdl
          have hlt : a < z.heap.objs.size := Heap.lt_size hol
          have hol' := Heap.get?_push_of_some (set0 led) hol
          have hsls := PySem.F.sub_tuple_set
          have hslf := PySem.F.sub_tuple_frozenset
          have hne : (Value.type "tuple" == Value.type "dict") = false := by decide
          have hl1 : (z.heap.push (set0 led)).IsTuple a us := ⟨_, hol', rfl, nl, rfl⟩
          unfold Builtin.«set.__init__» noKeywords Builtin.Frozenset.updateFrom
          generalize hPI : pyIter = PI
          wp_walk
          subst hPI
          refine wpAny_pyIter_tuple hl1 (wpAny_bind (wpAny_runValue ?_))
          have n1 : a ≠ (z.heap.push (set0 led)).objs.size := by rw [Heap.size_push]; exact Nat.ne_of_lt (Nat.lt_succ_of_lt hlt)
          have n2 : z.heap.objs.size ∉ [(z.heap.push (set0 led)).objs.size, a] := by
            rw [Heap.size_push]; simp only [List.mem_cons, List.not_mem_nil, or_false, not_or]; exact ⟨Nat.ne_of_lt (Nat.lt_succ_self _), Nat.ne_of_gt hlt⟩
          refine set_turns ((Walks.tuple calm3 _ a n1 us).toS) n2 xs hsz (by omega) hval us.size 0 _ (by omega) ⟨⟨_, Heap.get?_push_size _ rfl, rfl, rfl⟩, (hl1.push _)⟩ (start _) fun z3 mv hS3 => ?_
          obtain ⟨_, h', tk, rfl, q1, q2⟩ := fin "tuple" _ hlt z3 mv hS3
          show wpAny _ _ _ _ _ _
          refine wpAny_pure ?_
          show wpAny _ _ (ret Value.none) _ _ _
          exact wpAny_pure ⟨rfl, h', tk, rfl, q1, q2⟩
      · cases r2 with
        | error e => exact hr2
        | ok fl2 =>
          cases fl2 with
          | next => exact hr2.elim
          | brk => exact hr2.elim
          | cont => exact hr2.elim
          | ret r =>
            obtain ⟨rfl, h', tk, rfl, hS', hk'⟩ := hr2
            repeat (any_goals (first | assumption | wp_step))
            exact k _ _ hS' hk'
end
section
variable {X : Cx} {a : Expr} {σ : L2.St} {H : Hp} {Q : VK} {p p2 q pos : Pos}
/-- len(set(xs)), xs a list or tuple of texts -/
theorem e_lenSet (hm : X.mg "len" = none) (hm2 : X.mg "set" = none) (h : WE X a σ H fun x H1 => ∃ l, ∃ xs : List Str, x = .ref l ∧ (SqL X.K H1 l (xs.map V.str) ∨ SqT X.K H1 l (xs.map V.str)) ∧ xs.length ≤ 1000 ∧ Q (.int (cnt xs xs.length)) H1)
    (hc : X.calm = true := by rfl) (hg : Gl X "len" := by rfl) (hg2 : Gl X "set" := by rfl) (na : starEach [a] X.env = (false, eval a X.env) :: starEach [] X.env := by rfl) :
    WE X (.Call (.Name "len" p) [.Call (.Name "set" p2) [a] [] q] [] pos) σ H Q := by
  constructor
  intro pins s I
  refine Call_ (ld_blt I hg hm boot_len ?_)
  refine PyProof.Rows.callWith_builtin1 (PyProof.Rows.args_cons ?_ rfl) rfl rfl
  refine Call_ (ld_blt I hg2 hm2 boot_set ?_)
  refine PyProof.Rows.callWith_type1 (PyProof.Rows.args_cons (thn (h.go pins s I) fun v s1 ⟨x, H1, I1, r1, l, xs, e1, hq, hl, q1⟩ => PyProof.Rows.args_nil ?_) na) na rfl
  subst e1
  cases r1
  have fin : ∀ (us : List Value), Vals (xs.map V.str) us → (s1.heap.IsList l us.toArray ∨ s1.heap.IsTuple l us.toArray) →
      wpAny (model X.prog X.w) X.A (call (.type "set") [.ref l]) (fun v s₂ => wpAny (model X.prog X.w) X.A (spliced (backTo pos (starEach [] X.env))) (fun vs s₂ => wpAny (model X.prog X.w) X.A (call (.builtin "len") (v :: vs)) (EP X pins σ Q) X.xe s₂) X.xe s₂) X.xe s1 := fun us r hseq => by
    refine make_set (I1.ok.hd hc) hseq (by simpa using strsAre_of r) hl fun h' tk hS hk => ?_
    refine PyProof.Rows.args_nil ?_
    obtain ⟨o, es, ep, t, ho, hex, hd, _, _, _, hf, hn⟩ := hS
    have I2 : Inv X pins σ H1 { s1 with heap := h', toks := tk } := I1.kept fun b o e => hk b o (Heap.lt_size e) e
    have hcn := cnt_le xs xs.length
    refine call_len_set ho hex hd hf (by rw [hn]; omega) ⟨.int (cnt xs xs.length), H1, I2.tok _, ⟨_, by rw [hn]⟩, q1⟩
  rcases hq with hq | hq
  · obtain ⟨us, r, pl, hz⟩ := I1.list hq
    exact fin us r (.inl pl.isList)
  · obtain ⟨us, r, pl, hz⟩ := I1.tuple hq
    exact fin us r (.inr pl)
end
end My

namespace My
open PySem PySem.Spec PyProof.Rows L2
/-! ### sets of texts whose table rises: they can be walked -/
def txOf (e : Int × Value) : Str := match e.2 with | .str x _ => x | _ => Str.empty
def GoodT (w : World) (e : Int × Value) : Prop := ∃ x tk, e.2 = Value.str x tk ∧ e.1 = hashStr w x
/-- the set at a: the texts S, n of them -/
def SetT (w : World) (h : Heap) (a : Addr) (S : Str → Bool) (n : Nat) : Prop :=
  ∃ o es ep t, (h.get? a = some o ∧ o.ExactSet ∧ o.data = .set es ep t) ∧ ((∀ e ∈ es.toList, GoodT w e) ∧ (es.toList.map txOf).Nodup ∧ ∀ k, S k = true ↔ k ∈ es.toList.map txOf) ∧
    (es.size < scanBound ∧ t.fits es.size = true ∧ es.size = n) ∧ Ris t.place.toList ∧ (w.params.followText "set-order" = true ∨ t.led = true)
section
variable {P : Program} {w : World} {h h' : Heap} {a : Addr} {S : Str → Bool} {n : Nat}
theorem goodT_elems {l : List (Int × Value)} (g : ∀ e ∈ l, GoodT w e) : ElemsOf (PySem.strKind P w) l := fun e he => by
  obtain ⟨x, tk, h1, h2⟩ := g e he
  exact ⟨⟨x, by rw [h1]; exact strKind_is P w x tk, h2⟩, by rw [h1] <;> rfl⟩
theorem goodT_is {e : Int × Value} (g : GoodT w e) (k : Str) : (PySem.strKind P w).is k e.2 = true ↔ txOf e = k := by
  obtain ⟨x, tk, h1, _⟩ := g
  unfold txOf
  rw [h1]
  show ((x == k) = true) ↔ x = k
  exact beq_iff_eq
theorem goodT_mem {l : List (Int × Value)} (g : ∀ e ∈ l, GoodT w e) (k : Str) : k ∈ l.map txOf ↔ ∃ e ∈ l, (PySem.strKind P w).is k e.2 = true := by
  rw [List.mem_map]
  exact ⟨fun ⟨e, he, q⟩ => ⟨e, he, (goodT_is (P := P) (g e he) k).2 q⟩, fun ⟨e, he, q⟩ => ⟨e, he, (goodT_is (P := P) (g e he) k).1 q⟩⟩
theorem SetT.setOf (R : SetT w h a S n) : h.SetOf (PySem.strKind P w) a S n := by
  obtain ⟨o, es, ep, t, ⟨ho, hx, hd⟩, ⟨g, nd, hm⟩, ⟨hb, hf, hn⟩, _⟩ := R
  exact ⟨o, es, ep, t, ho, hx, hd, goodT_elems g, fun k => (hm k).trans (goodT_mem (P := P) g k), hb, hf, hn⟩
theorem SetT.at (R : SetT w h a S n) (k : ∀ o, h.get? a = some o → h'.get? a = some o) : SetT w h' a S n := by
  obtain ⟨o, es, ep, t, ⟨ho, r1⟩, r2⟩ := R
  exact ⟨o, es, ep, t, ⟨k o ho, r1⟩, r2⟩
theorem SetT.congr {S' : Str → Bool} {m : Nat} (R : SetT w h a S n) (e : ∀ k, S' k = S k) (em : m = n) : SetT w h a S' m := by
  rw [funext e, em]; exact R
end
section
variable {P : Program} {w : World} {A : Around} {E : Value → Shared → Prop} {s : Shared} {a : Addr} {S : Str → Bool} {n : Nat}
/-- the end of an insertion: stored, and laid anew where the table is too full -/
theorem setT_tail {g : Bool → Sem Unit} (hg : ∀ (b : Bool) (s₁ : Shared) (Q' : Unit → Shared → Prop), Q' () s₁ → wpAny (model P w) A (g b) Q' E s₁)
    {o : Obj} {es : Array (Int × Value)} {ep : Nat} {t : SetTable} (ho : s.heap.get? a = some o) (hex : o.ExactSet) (hd : o.data = .set es ep t)
    {es1 : Array (Int × Value)} {t2 : SetTable} {S' : Str → Bool} (g1 : ∀ e ∈ es1.toList, GoodT w e) (nd1 : (es1.toList.map txOf).Nodup) (m1 : ∀ k, S' k = true ↔ k ∈ es1.toList.map txOf)
    (hb1 : es1.size < scanBound) (hf2 : t2.fits es1.size = true) (hr : Ris t2.place.toList) (hl : w.params.followText "set-order" = true ∨ t2.led = true) {wasDummy : Bool} {R : Option Bool → Shared → Prop}
    (hR : ∀ h', Heap.SameBut a s.heap h' → SetT w h' a S' es1.size → R (some true) { s with heap := h' }) :
    wpAny (model P w) A (do
        storeSet a es1 t2
        if (!wasDummy && t2.tooFull) = true then do
            g (relayAll t2 es1 (SetTable.grown es1.size)).2.2
            storeSet a (relayAll t2 es1 (SetTable.grown es1.size)).1 (relayAll t2 es1 (SetTable.grown es1.size)).2.1
            pure (some true)
          else pure (some true)) R E s := by
  refine wpAny_bind (wpAny_storeSet_of ho hd ?_ (fits_of_scanBound hb1))
  have at1 := store_at (es' := es1) (t' := t2) ho hd
  have sb := Heap.SameBut.update s.heap a (Obj.putSet es1 t2)
  split
  · have p1 := relayAll_perm t2 es1 (SetTable.grown es1.size)
    have p2 := relayAll_fits t2 es1 (SetTable.grown es1.size)
    have p3 := relayAll_ris t2 es1 (SetTable.grown es1.size)
    have p4 := relayAll_led t2 es1 (SetTable.grown es1.size)
    generalize relayAll t2 es1 (SetTable.grown es1.size) = Z at p1 p2 p3 p4 ⊢
    obtain ⟨es2, t3, gave⟩ := Z
    dsimp only at p1 p2 p3 p4 ⊢
    have sz : es2.size = es1.size := by rw [← Array.length_toList, p1.length_eq, Array.length_toList]
    refine wpAny_bind (hg _ _ _ (wpAny_bind (wpAny_storeSet_of at1 rfl ?_ (fits_of_scanBound (by rw [sz]; exact hb1)))))
    have at2 := store_at (es' := es2) (t' := t3) at1 rfl
    refine wpAny_pure (hR _ (sb.trans (Heap.SameBut.update _ a _)) ?_)
    exact ⟨_, es2, _, t3, ⟨at2, hex, rfl⟩, ⟨fun e he => g1 e (p1.mem_iff.mp he), (p1.map txOf).nodup_iff.mpr nd1, fun k => (m1 k).trans (p1.map txOf).mem_iff.symm⟩, ⟨by rw [sz]; exact hb1, p2, sz⟩, p3,
      hl.imp id fun z => by rw [p4]; exact z⟩
  · exact wpAny_pure (hR _ sb ⟨_, es1, _, t2, ⟨at1, hex, rfl⟩, ⟨g1, nd1, m1⟩, ⟨hb1, hf2, rfl⟩, hr, hl⟩)
theorem setT_add {k : Str} {tk : Tok} {Q : Bool → Shared → Prop} (R : SetT w s.heap a S n) (room : n + 1 < scanBound)
    (hQ : ∀ h', Heap.SameBut a s.heap h' → SetT w h' a (fun j => S j || decide (j = k)) (if S k = true then n else n + 1) → Q (!S k) { s with heap := h' }) :
    wpAny (model P w) A (setAddHashed a (.str k tk) ((PySem.strKind P w).hash k)) Q E s := by
  obtain ⟨o, es, ep, t, ⟨ho, hex, hd⟩, ⟨g, nd, hm⟩, ⟨hb, hf, hn⟩, hr, hl⟩ := R
  have hkey : (PySem.strKind P w).is k (.str k tk) = true := strKind_is P w k tk
  have hsc : (Value.str k tk).scannable = true := rfl
  have hel : ElemsOf (PySem.strKind P w) es.toList := goodT_elems g
  unfold setAddHashed setAddHashedIn
  refine wpAny_holding (wpAny_bind (wpAny_setState_of ho hd hf ?_))
  dsimp only
  rw [byScan_of hsc hb hel]
  simp only [↓reduceIte]
  unfold setAddByScan
  refine wpAny_bind (wpAny_bind (wpAny_rule (wpAny_bind (wpAny_setScan_of hkey ho hd hf hel ?_))))
  cases hfi : List.findIdx? (fun e => (PySem.strKind P w).is k e.2) es.toList with
  | some j =>
    dsimp only
    obtain ⟨hj, pj, _⟩ := List.findIdx?_eq_some_iff_getElem.mp hfi
    have yes : S k = true := (hm k).2 ((goodT_mem (P := P) g k).2 ⟨es.toList[j], List.getElem_mem hj, pj⟩)
    refine wpAny_pure (wpAny_pure ?_)
    have q := hQ s.heap (Heap.SameBut.refl a s.heap) ⟨o, es, ep, t, ⟨ho, hex, hd⟩, ⟨g, nd, fun i => by
      rw [Bool.or_eq_true, decide_eq_true_eq, ← hm i]
      exact ⟨fun z => z.elim id (fun e => e ▸ yes), .inl⟩⟩, ⟨hb, hf, by rw [if_pos yes]; exact hn⟩, hr, hl⟩
    rw [yes] at q
    exact q
  | none =>
    dsimp only
    have new : k ∉ es.toList.map txOf := fun z => by
      obtain ⟨e, he, q⟩ := (goodT_mem (P := P) g k).1 z
      have c := List.findIdx?_eq_none_iff.mp hfi e he
      rw [q] at c
      cases c
    have no : S k = false := by
      cases q : S k with
      | false => rfl
      | true => exact absurd ((hm k).1 q) new
    have hgw : ∀ (b : Bool) {s₁ : Shared} {Q' : Unit → Shared → Prop}, Q' () s₁ → wpAny (model P w) A (match b with | true => rule "set.scan.the-table-gave-way" | false => pure ()) Q' E s₁ :=
      fun b s₁ Q' q => by cases b <;> first | exact wpAny_pure q | exact wpAny_rule q
    have p1 := layNew_perm t es ((PySem.strKind P w).hash k) (.str k tk)
    have p2 := layNew_fits t es ((PySem.strKind P w).hash k) (.str k tk)
    have p3 := layNew_ris t es ((PySem.strKind P w).hash k) (.str k tk) hr
    have p4 := layNew_led t es ((PySem.strKind P w).hash k) (.str k tk)
    generalize layNew t es ((PySem.strKind P w).hash k) (.str k tk) = Z at p1 p2 p3 p4 ⊢
    obtain ⟨es1, t1, wasDummy, gave⟩ := Z
    dsimp only at p1 p2 p3 p4 ⊢
    rw [Array.toList_push] at p1
    have pc : es1.toList.Perm (((PySem.strKind P w).hash k, Value.str k tk) :: es.toList) := p1.trans (List.perm_append_singleton _ _)
    have pk : (es1.toList.map txOf).Perm (k :: es.toList.map txOf) := pc.map txOf
    have g1 : ∀ e ∈ es1.toList, GoodT w e := fun e he => by
      rcases List.mem_cons.mp (pc.mem_iff.mp he) with z | z
      · rw [z]; exact ⟨k, tk, rfl, rfl⟩
      · exact g e z
    have nd1 : (es1.toList.map txOf).Nodup := pk.nodup_iff.mpr (List.nodup_cons.mpr ⟨new, nd⟩)
    have m1 : ∀ i, (S i || decide (i = k)) = true ↔ i ∈ es1.toList.map txOf := fun i => by
      rw [Bool.or_eq_true, decide_eq_true_eq, hm i, pk.mem_iff, List.mem_cons]
      exact Or.comm
    have sz : es1.size = n + 1 := by rw [← Array.length_toList, pc.length_eq, List.length_cons, Array.length_toList, hn]
    have led1 : w.params.followText "set-order" = true ∨ t1.led = true := hl.imp id fun z => by rw [p4]; exact z
    have fin : ∀ h', Heap.SameBut a s.heap h' → SetT w h' a (fun j => S j || decide (j = k)) es1.size → Q true { s with heap := h' } := fun h' sb r => by
      have q := hQ h' sb
      rw [no] at q
      rw [sz] at r
      exact q r
    refine wpAny_bind (hgw _ ?_)
    split
    · refine wpAny_bind ?_
      rw [hashByValue_scannable 8 hsc]
      refine wpAny_pure (setT_tail ?_ ho hex hd g1 nd1 m1 (by rw [sz]; exact room) ?_ ?_ ?_ ?_)
      · intro b s₁ Q' q; cases b <;> first | exact wpAny_pure q | exact wpAny_rule q
      · first | (split <;> first | exact p2 | exact SetTable.fits_plain_off p2) | exact p2
      · first | (split <;> exact p3) | exact p3
      · first | (split <;> exact led1) | exact led1
      · intro h' sb r; dsimp only; exact wpAny_pure (fin h' sb r)
    · refine wpAny_bind (wpAny_pure ?_)
      simp only [↓reduceIte]
      refine setT_tail ?_ ho hex hd g1 nd1 m1 (by rw [sz]; exact room) p2 p3 led1 ?_
      · intro b s₁ Q' q; cases b <;> first | exact wpAny_pure q | exact wpAny_rule q
      · intro h' sb r; dsimp only; exact wpAny_pure (fin h' sb r)
/-! ### sorted -/
theorem txs_of : ∀ (l : List Value), (∀ v ∈ l, ∃ x tk, v = Value.str x tk) → StrsAre l (l.map fun v => txOf (0, v))
  | [], _ => .nil
  | v :: l, h => by
    obtain ⟨x, tk, rfl⟩ := h v List.mem_cons_self
    exact .cons x tk (txs_of l fun u hu => h u (List.mem_cons_of_mem _ hu))
theorem sorted_setT {Q : Value → Shared → Prop} (R : SetT w s.heap a S n) (hh : A.handled = none) (h64 : n < 64)
    (hQ : ∀ s' p (out : Array Value) (c : Nat) (ys : List Str), (∀ b o, s.heap.get? b = some o → s'.heap.get? b = some o) → s'.gens = s.gens → s'.os = s.os → s.heap.objs.size ≤ p →
      s'.heap.get? p = some (seqObj "list" out c) → StrsAre out.toList ys → sortedS ys = true → ys.Nodup → (∀ k, k ∈ ys ↔ S k = true) → ys.length = n → Q (.ref p) s') :
    wpAny (model P w) A (call (.builtin "sorted") [.ref a]) Q E s := by
  obtain ⟨o, es, ep, t, ⟨ho, hex, hd⟩, ⟨g, nd, hm⟩, ⟨hb, hf, hn⟩, hr, hl⟩ := R
  refine Calls.call_function_entry kind_sorted plain_sorted entry_sorted (args_sorted1 _) ?_
  unfold Builtin.«sorted»
  refine wpAny_bind (m := checkCount "sorted" 1 1 _) (wpAny_pure ?_)
  refine wpAny_bind (collect_set (A := A.in1) hh ⟨o, ho, hex.1, hd⟩ hf hb hr hl fun s1 vs k1 hz g1 o1 pm => ?_)
  have hvl : vs.length = n := by rw [pm.length_eq, List.length_map, Array.length_toList]; exact hn
  have hI : StrsAre vs (vs.map fun v => txOf (0, v)) := txs_of vs fun v hv => by
    obtain ⟨e, he, q⟩ := List.mem_map.mp (pm.mem_iff.mp hv)
    obtain ⟨x, tk, h1, _⟩ := g e he
    exact ⟨x, tk, by rw [← q]; exact h1⟩
  have pk : (vs.map fun v => txOf (0, v)).Perm (es.toList.map txOf) := by
    have q := pm.map fun v => txOf (0, v)
    rw [List.map_map] at q
    exact q
  refine wpAny_bind (wpAny_newList ?_ (by rw [hvl, sizeLine_eq]; omega))
  have hoL : (s1.heap.push (seqObj "list" vs.toArray 0)).get? s1.heap.objs.size = some (seqObj "list" vs.toArray 0) := Heap.get?_push_size _ rfl
  refine wpAny_bind (wpAny_holding (wpAny_call_entry slot_list_sort ⟨_, hoL, rfl⟩ entry_list_sort (list_sort_treeK strKind_oneLt hoL hI.keysOf (fun v1 v2 r e => keyKind_strs (by rw [← e]; exact hI)) (by rw [hvl]; exact h64) fun st hp hst => ⟨_, rfl, ?_⟩) (args_list_sort _)))
  obtain ⟨ys, h1, h2, h3⟩ := sorted_out_str hI hp hst
  generalize Array.map (fun x => x.snd) (arrOf st) = out at h1 ⊢
  have pn : ys.Perm (es.toList.map txOf) := h2.trans pk
  obtain ⟨c, hc⟩ := sortedHeap_at (vs := vs) (out := out) hoL
  refine wpAny_pure ⟨_, rfl, hQ _ s1.heap.objs.size out c ys (fun b u e => ?_) g1 o1 hz hc h1 h3 (pn.nodup_iff.mpr nd) (fun k => by rw [pn.mem_iff, ← hm k]) ?_⟩
  · have q := k1 b u e
    have hlt := Heap.lt_size q
    show (sortedHeap (s1.heap.push (seqObj "list" vs.toArray 0)) s1.heap.objs.size vs out).get? b = some u
    rw [sortedHeap_old (Nat.ne_of_lt hlt) (by rw [size_push']; exact Nat.lt_succ_of_lt hlt)]
    exact Heap.get?_push_of_some _ q
  · rw [pn.length_eq, List.length_map, Array.length_toList]; exact hn
end
end My

namespace My
open PySem PySem.Spec PyProof.Rows L2
section
variable {P : Program} {w : World} {A : Around} {R : Result → Shared → Prop} {I S : Addr} {fp wr : List Addr} {G : Array GenState → Array GenState → Prop} {n : Nat} {Pi : Nat → Value → Prop} {St : Nat → Shared → Prop}
abbrev HoldT (w : World) (h : Heap) (S : Addr) (xs : List Str) (i : Nat) : Prop := SetT w h S (fun k => (xs.take i).any (· == k)) (cnt xs i)
theorem setT_turns (W : WalksS P w A.in1 I fp wr G n Pi St) (nS : S ∉ fp) (xs : List Str) (hn : xs.length = n) (h64 : n ≤ 1000) (hv : ∀ i v, Pi i v → ∃ t, v = .str (xs.getD i Str.empty) t) :
    ∀ (m i : Nat) (z : Shared), i + m = n → St i z → HoldT w z.heap S xs i →
      (∀ z', Moved (S :: wr) G z z' → HoldT w z'.heap S xs n → R (.ok (.ret .none)) z') → codeAny (model P w) A (.builtin "set.update.loop" ⟨[.ref S, .ref I], []⟩) R z := by
  have nSw : S ∉ wr := fun h => nS (W.sub _ h)
  have more : ∀ b ∈ wr, b ∈ S :: wr := fun b hb => List.mem_cons_of_mem _ hb
  intro m
  induction m with
  | zero =>
    intro i z hi st hS k
    have ei : i = n := by omega
    subst ei
    refine codeAny_builtin PyProof.Rows.F.entry_set_update_loop ?_
    rw [Around.under_plainId PyProof.Rows.F.plain_set_update_loop _]
    show wpAny _ A.in1 (pyNext (.ref I) >>= _) _ _ z
    refine wpAny_bind (W.done z _ _ st fun z' mv => ?_)
    show wpAny _ A.in1 (ret Value.none) _ _ z'
    exact wpAny_pure (k z' (mv.mono more) (SetT.at hS fun o ho => mv.heap S _ nSw ho))
  | succ m ih =>
    intro i z hi st hS k
    have hlt : i < n := by omega
    refine codeAny_builtin PyProof.Rows.F.entry_set_update_loop ?_
    rw [Around.under_plainId PyProof.Rows.F.plain_set_update_loop _]
    show wpAny _ A.in1 (pyNext (.ref I) >>= _) _ _ z
    refine wpAny_bind (W.item i z _ _ hlt st fun v z' hP st' mv => ?_)
    obtain ⟨t, rfl⟩ := hv i v hP
    have hS' : HoldT w z'.heap S xs i := SetT.at hS fun o ho => mv.heap S _ nSw ho
    show wpAny _ A.in1 (holding [Value.str (xs.getD i Str.empty) t] (setAdd S (.str (xs.getD i Str.empty) t)) >>= _) _ _ z'
    refine wpAny_bind (wpAny_holding ?_)
    unfold setAdd
    refine wpAny_holding (wpAny_bind ((PySem.strKind P w).pyHash (k := xs.getD i Str.empty) (strKind_is _ _ _ _) ?_))
    refine setT_add (s := { z' with toks := z'.toks + 1 }) hS' (by have := cnt_le xs i; unfold scanBound; omega) fun h' only hS2 => ?_
    have hSi : HoldT w h' S xs (i + 1) := by
      refine hS2.congr (fun y => Eq.symm ?_) rfl
      show ((xs.take i).any (· == y) || decide (y = xs.getD i Str.empty)) = (xs.take (i + 1)).any (· == y)
      rw [take_one (by omega), List.any_append]
      have e : [xs.getD i Str.empty].any (· == y) = decide (y = xs.getD i Str.empty) := by
        by_cases e : y = xs.getD i Str.empty
        · subst e; simp
        · have hb : (xs.getD i Str.empty == y) = false := beq_eq_false_iff_ne.mpr fun q => e q.symm
          rw [decide_eq_false e]
          show ((xs.getD i Str.empty == y) || false) = false
          rw [hb]; rfl
      rw [e]
    refine wpAny_pure ⟨plainId_quiet PyProof.Rows.F.plain_set_update_loop _, ih (i + 1) _ (by omega) (W.frame _ z' _ _ st' (Nat.le_succ _) fun b hb o e => ?_) hSi fun z2 mv2 hS3 => ?_⟩
    · rw [only.2 b fun q : b = S => nS (by rw [← q]; exact hb)]; exact e
    · refine k z2 (Moved.trans W.gtrans ((mv.mono more).then_heap (Nat.le_succ _) fun b o hb e => ?_) mv2) hS3
      rw [only.2 b fun q : b = S => hb (by rw [q]; exact List.mem_cons_self)]; exact e
end
section
variable {P : Program} {w : World} {A : Around} {E : Value → Shared → Prop} {z : Shared}
set_option maxHeartbeats 4000000 in
theorem make_setT {a : Addr} {us : Array Value} {xs : List Str} {Q : Value → Shared → Prop} (calm : A.handled = none) (hseq : z.heap.IsList a us ∨ z.heap.IsTuple a us) (hi : StrsAre us.toList xs) (h1000 : xs.length ≤ 1000)
    (k : ∀ (h' : Heap) (tk : Nat), HoldT w h' z.heap.objs.size xs xs.length → (∀ b o, b < z.heap.objs.size → z.heap.get? b = some o → h'.get? b = some o) → Q (.ref z.heap.objs.size) { z with heap := h', toks := tk }) :
    wpAny (model P w) A (call (.type "set") [.ref a]) Q E z := by
  obtain ⟨c, tl, hmro⟩ := PySem.F.called_set.mro
  have hmade := PySem.F.called_set.made
  have hsub := PySem.F.called_set.sub
  have hsz : xs.length = us.size := by rw [← StrsAre.len_eq hi, Array.length_toList]
  have hval : ∀ (i : Nat) (v : Value), us[i]? = some v → ∃ t, v = .str (xs.getD i Str.empty) t := fun i v hv => SS.strs_at hi i v (by rw [Array.getElem?_toList]; exact hv)
  refine wpAny_call (codeAny_of_tree ?_)
  show wpAny _ _ (callAny (.type "set") _) _ _ _
  refine wpAny_pure ⟨Code.quiet_builtin _ (by decide +kernel), codeAny_builtin PySem.F.entry_type_call ?_⟩
  rw [Around.under_plain (weight_type_call_type "set" [.ref a] []) rfl]
  have t1 := PySem.F.called_set.notType
  have t2 := PySem.F.called_set.canCreate
  have t3 := PySem.F.typeCall_set_1 (.ref a)
  repeat (any_goals (first | assumption | wp_step))
  refine codeAny_mono (code_set_led1 (.ref a) (E := E) (Q₁ := fun ob z1 => ∃ led : Bool, led = (!w.params.followText "set-order") ∧ ob = .ref z.heap.objs.size ∧ z1 = { z with heap := z.heap.push (set0 led) }) ⟨_, rfl, rfl, rfl⟩) fun r z1 hr => ?_
  cases r with
  | error e => exact hr
  | ok fl =>
    cases fl with
    | next => exact hr.elim
    | brk => exact hr.elim
    | cont => exact hr.elim
    | ret ob =>
      obtain ⟨led, hled, rfl, rfl⟩ := hr
      have hS : (z.heap.push (set0 led)).get? z.heap.objs.size = some (set0 led) := Heap.get?_push_size _ rfl
      have hT : Shared.TypeIs { z with heap := z.heap.push (set0 led) } (.ref z.heap.objs.size) "set" := ⟨_, hS, rfl⟩
      have hli := PySem.F.called_set.init.lookup
      have hbi := PySem.F.called_set.init.bind (.ref z.heap.objs.size)
      repeat (any_goals (first | assumption | wp_step))
      refine codeAny_mono (codeAny_call_builtin (R := wants (fun r z2 => r = .none ∧ ∃ h' tk, z2 = { z with heap := h', toks := tk } ∧ HoldT w h' z.heap.objs.size xs xs.length ∧
          (∀ b o, b < z.heap.objs.size → z.heap.get? b = some o → h'.get? b = some o)) E) PySem.F.called_set.init.plain PySem.F.entry_set_init (check_set_init_1 hT ?_)) fun r2 z2 hr2 => ?_
      · have fin : ∀ (T : String) (ob0 : Obj), a < z.heap.objs.size → ∀ z3 : Shared, Moved (z.heap.objs.size :: [(z.heap.push (set0 led)).objs.size]) (fun a b => b = a) { z with heap := (z.heap.push (set0 led)).push ob0 } z3 →
            HoldT w z3.heap z.heap.objs.size xs us.size → wants (fun r z2 => r = .none ∧ ∃ h' tk, z2 = { z with heap := h', toks := tk } ∧ HoldT w h' z.heap.objs.size xs xs.length ∧
              (∀ b o, b < z.heap.objs.size → z.heap.get? b = some o → h'.get? b = some o)) E (.ok (.ret .none)) z3 := by
          intro T ob0 ha z3 mv hS3
          obtain ⟨h', g', d', tk', os'⟩ := z3
          have e1 : g' = z.gens := mv.gens
          have e2 : d' = z.drawn := mv.drawn
          have e3 : os' = z.os := mv.os
          subst e1; subst e2; subst e3
          refine ⟨rfl, h', tk', rfl, by rw [hsz]; exact hS3, fun b o hb e => mv.heap b o (fun q => ?_) (Heap.get?_push_of_some _ (Heap.get?_push_of_some _ e))⟩
          rcases List.mem_cons.mp q with q | q
          · exact absurd q (Nat.ne_of_lt hb)
          · have q := List.mem_singleton.mp q
            rw [Heap.size_push] at q
            exact absurd q (Nat.ne_of_lt (Nat.lt_succ_of_lt hb))
        have calm3 : A.in1.in1.in1.handled = none := by simp [calm]
        have start : ∀ ob0 : Obj, HoldT w ((z.heap.push (set0 led)).push ob0) z.heap.objs.size xs 0 := fun ob0 =>
          ⟨_, #[], 0, _, ⟨Heap.get?_push_of_some _ hS, ⟨rfl, rfl, rfl⟩, rfl⟩, ⟨fun e he => by simp at he, by simp, fun k => by simp⟩, ⟨by decide, by rfl, rfl⟩, List.Pairwise.nil, by
            show _ ∨ led = true
            rw [hled]
            cases w.params.followText "set-order"
            · exact .inr rfl
            · exact .inl rfl⟩
        rcases hseq with hl | hl
        · obtain ⟨⟨oc, od, oda, osl⟩, hol, hcl, nl, hdl⟩ := hl
          simp only at hcl hdl
          subst hcl; subst hdl
          have hlt : a < z.heap.objs.size := Heap.lt_size hol
          have hol' := Heap.get?_push_of_some (set0 led) hol
          have hsls := PySem.F.sub_list_set
          have hslf := PySem.F.sub_list_frozenset
          have hne : (Value.type "list" == Value.type "dict") = false := by decide
          have hl1 : (z.heap.push (set0 led)).IsList a us := ⟨_, hol', rfl, nl, rfl⟩
          unfold Builtin.«set.__init__» noKeywords Builtin.Frozenset.updateFrom
          generalize hPI : pyIter = PI
          wp_walk
          subst hPI
          refine wpAny_pyIter_list hl1 (wpAny_bind (wpAny_runValue ?_))
          have n1 : a ≠ (z.heap.push (set0 led)).objs.size := by rw [Heap.size_push]; exact Nat.ne_of_lt (Nat.lt_succ_of_lt hlt)
          have n2 : z.heap.objs.size ∉ [(z.heap.push (set0 led)).objs.size, a] := by
            rw [Heap.size_push]; simp only [List.mem_cons, List.not_mem_nil, or_false, not_or]; exact ⟨Nat.ne_of_lt (Nat.lt_succ_self _), Nat.ne_of_gt hlt⟩
          refine setT_turns ((Walks.list calm3 _ a n1 us).toS) n2 xs hsz (by omega) hval us.size 0 _ (by omega) ⟨⟨_, Heap.get?_push_size _ rfl, rfl, rfl⟩, (hl1.push _)⟩ (start _) fun z3 mv hS3 => ?_
          obtain ⟨_, h', tk, rfl, q1, q2⟩ := fin "list" _ hlt z3 mv hS3
          show wpAny _ _ _ _ _ _
          refine wpAny_pure ?_
          show wpAny _ _ (ret Value.none) _ _ _
          exact wpAny_pure ⟨rfl, h', tk, rfl, q1, q2⟩
        · obtain ⟨⟨oc, od, oda, osl⟩, hol, hcl, nl, hdl⟩ := hl
          simp only at hcl hdl
          subst hcl; subst hdl
          have hlt : a < z.heap.objs.size := Heap.lt_size hol
          have hol' := Heap.get?_push_of_some (set0 led) hol
          have hsls := PySem.F.sub_tuple_set
          have hslf := PySem.F.sub_tuple_frozenset
          have hne : (Value.type "tuple" == Value.type "dict") = false := by decide
          have hl1 : (z.heap.push (set0 led)).IsTuple a us := ⟨_, hol', rfl, nl, rfl⟩
          unfold Builtin.«set.__init__» noKeywords Builtin.Frozenset.updateFrom
          generalize hPI : pyIter = PI
          wp_walk
          subst hPI
          refine wpAny_pyIter_tuple hl1 (wpAny_bind (wpAny_runValue ?_))
          have n1 : a ≠ (z.heap.push (set0 led)).objs.size := by rw [Heap.size_push]; exact Nat.ne_of_lt (Nat.lt_succ_of_lt hlt)
          have n2 : z.heap.objs.size ∉ [(z.heap.push (set0 led)).objs.size, a] := by
            rw [Heap.size_push]; simp only [List.mem_cons, List.not_mem_nil, or_false, not_or]; exact ⟨Nat.ne_of_lt (Nat.lt_succ_self _), Nat.ne_of_gt hlt⟩
          refine setT_turns ((Walks.tuple calm3 _ a n1 us).toS) n2 xs hsz (by omega) hval us.size 0 _ (by omega) ⟨⟨_, Heap.get?_push_size _ rfl, rfl, rfl⟩, (hl1.push _)⟩ (start _) fun z3 mv hS3 => ?_
          obtain ⟨_, h', tk, rfl, q1, q2⟩ := fin "tuple" _ hlt z3 mv hS3
          show wpAny _ _ _ _ _ _
          refine wpAny_pure ?_
          show wpAny _ _ (ret Value.none) _ _ _
          exact wpAny_pure ⟨rfl, h', tk, rfl, q1, q2⟩
      · cases r2 with
        | error e => exact hr2
        | ok fl2 =>
          cases fl2 with
          | next => exact hr2.elim
          | brk => exact hr2.elim
          | cont => exact hr2.elim
          | ret r =>
            obtain ⟨rfl, h', tk, rfl, hS', hk'⟩ := hr2
            repeat (any_goals (first | assumption | wp_step))
            exact k _ _ hS' hk'
end
section
variable {X : Cx} {a : Expr} {σ : L2.St} {H : Hp} {Q : VK} {p p2 q pos : Pos}
theorem any_mem (xs : List Str) (k : Str) : (xs.any (· == k)) = true ↔ k ∈ xs := by
  rw [List.any_eq_true]
  exact ⟨fun ⟨x, h, e⟩ => by rw [← beq_iff_eq.mp e]; exact h, fun h => ⟨k, h, beq_self_eq_true k⟩⟩
/-- sorted(set(xs)), xs a list or tuple of texts -/
theorem e_sortedSet (hm : X.mg "sorted" = none) (hm2 : X.mg "set" = none) (h : WE X a σ H fun x H1 => ∃ l, ∃ xs : List Str, x = .ref l ∧ (SqL X.K H1 l (xs.map V.str) ∨ SqT X.K H1 l (xs.map V.str)) ∧ xs.length < 64 ∧
      ∀ (ys : List Str) (t : Addr), sortedS ys = true → ys.Nodup → (∀ k, k ∈ ys ↔ k ∈ xs) → ys.length = cnt xs xs.length → H1 t = none → Q (.ref t) (upd H1 t (.lst (ys.map V.str))))
    (hc : X.calm = true := by rfl) (hg : Gl X "sorted" := by rfl) (hg2 : Gl X "set" := by rfl) (na : starEach [a] X.env = (false, eval a X.env) :: starEach [] X.env := by rfl) :
    WE X (.Call (.Name "sorted" p) [.Call (.Name "set" p2) [a] [] q] [] pos) σ H Q := by
  constructor
  intro pins s I
  refine Call_ (ld_blt I hg hm PyProof.Rows.boot_sorted ?_)
  refine PyProof.Rows.callWith_builtin1 (PyProof.Rows.args_cons ?_ rfl) rfl rfl
  refine Call_ (ld_blt I hg2 hm2 boot_set ?_)
  refine PyProof.Rows.callWith_type1 (PyProof.Rows.args_cons (thn (h.go pins s I) fun v s1 ⟨x, H1, I1, r1, l, xs, e1, hq, hl, q1⟩ => PyProof.Rows.args_nil ?_) na) na rfl
  subst e1
  cases r1
  have fin : ∀ (us : List Value), Vals (xs.map V.str) us → (s1.heap.IsList l us.toArray ∨ s1.heap.IsTuple l us.toArray) →
      wpAny (model X.prog X.w) X.A (call (.type "set") [.ref l]) (fun v s₂ => wpAny (model X.prog X.w) X.A (spliced (backTo pos (starEach [] X.env))) (fun vs s₂ => wpAny (model X.prog X.w) X.A (call (.builtin "sorted") (v :: vs)) (EP X pins σ Q) X.xe s₂) X.xe s₂) X.xe s1 := fun us r hseq => by
    refine make_setT (I1.ok.hd hc) hseq (by simpa using strsAre_of r) (by omega) fun h' tk hS hk => ?_
    refine PyProof.Rows.args_nil ?_
    have I2 : Inv X pins σ H1 { s1 with heap := h', toks := tk } := I1.kept fun b o e => hk b o (Heap.lt_size e) e
    have hcn := cnt_le xs xs.length
    refine sorted_setT hS (I2.ok.hd hc) (by omega) fun s' t out c ys k g o hp ho hi hs hnd hmem hlen => ?_
    have hlen2 : (ys.map V.str).length ≤ sizeLine := by rw [List.length_map, hlen, sizeLine_eq]; omega
    have hn : H1 t = none := I2.hok.fresh hp
    have J : Inv X pins σ (upd H1 t (.lst (ys.map V.str))) { { s1 with heap := h', toks := tk } with heap := s'.heap, gens := s'.gens, drawn := s'.drawn, toks := s'.toks } :=
      I2.call (ch := []) (Un.laid k hp hn) (I2.hok.laid k hp ⟨hlen2, out.toList, c, vals_of_strs hi, ho⟩) (by rw [g]; exact I2.bare) (fun _ z => nomatch z)
    have e : s' = { { s1 with heap := h', toks := tk } with heap := s'.heap, gens := s'.gens, drawn := s'.drawn, toks := s'.toks } := by
      cases s'
      cases s1
      cases o
      rfl
    rw [e]
    refine ⟨.ref t, _, J, rfl, q1 ys t hs hnd (fun k => ?_) hlen hn⟩
    rw [hmem k, List.take_length]
    exact any_mem xs k
  rcases hq with hq | hq
  · obtain ⟨us, r, pl, hz⟩ := I1.list hq
    exact fin us r (.inl pl.isList)
  · obtain ⟨us, r, pl, hz⟩ := I1.tuple hq
    exact fin us r (.inr pl)
end
end My

namespace My
open PySem PySem.Spec PyProof.Rows L2
section
variable {X : Cx} {o e : Expr} {σ : L2.St} {H : Hp} {Q : VK} {D : Ends} {pos apos : Pos}
/-- o.pop(e), a list -/
theorem e_pop (h : WE X o σ H fun x H1 => (∃ l xs, x = .ref l ∧ SqL X.K H1 l xs) ∧ WE X e σ H1 fun y H2 => ∃ l xs i k z, x = .ref l ∧ y = .int i ∧ H2 l = some (.lst xs) ∧ -(2 ^ 63) ≤ i ∧ i < 2 ^ 63 ∧ seqIndex? i xs.length = some k ∧ xs[k]? = some z ∧ Q z (upd H2 l (.lst (xs.eraseIdx k))))
    (hbase : attributeBase o "pop" X.env (eval o X.env) = eval o X.env := by rfl)
    (hfew : ((backTo pos (starEach [e] X.env)).all (fun x => !x.1) && (backToKw pos (keywordEach [] X.env)).all (fun x => x.1.isSome) && decide ([e].length + ([] : List Keyword).length + (if ([] : List Keyword).isEmpty then 0 else 1) < 30)) = true := by rfl)
    (hline : (apos.endLine == pos.line) = true := by rfl) (hs : starEach [e] X.env = (false, eval e X.env) :: starEach [] X.env := by rfl) (hplain : (backTo pos (starEach [] X.env)).any (·.1) = false := by rfl) :
    WE X (.Call (.Attribute o "pop" apos) [e] [] pos) σ H Q :=
  toE (pe_bm PySem.F.plainAttrs_list PySem.F.slot_list_pop PySem.F.type_list_pop mt_popAt pE pA hbase hfew hline hs hplain) (WE.mono h fun x H1 ⟨⟨l, xs, e1, hS⟩, k⟩ => by
    subst e1
    exact ⟨.inl ⟨rfl, _, hS⟩, a_cons (WE.mono k fun y H2 ⟨l', xs', i, k', z, a1, a2, a3, a4, a5, a6, a7, q⟩ => a_nil ⟨l', xs', i, k', z, a1, by rw [a2], a3, a4, a5, a6, a7, q⟩) hs⟩)
/-- o.append(e) as a statement -/
theorem s_app (h : WE X o σ H fun x H1 => (∃ l xs, x = .ref l ∧ SqL X.K H1 l xs) ∧ WE X e σ H1 fun y H2 => ∃ l xs, x = .ref l ∧ H2 l = some (.lst xs) ∧ xs.length < sizeLine ∧ D.nx σ (upd H2 l (.lst (xs ++ [y])))) {pos' : Pos}
    (hbase : attributeBase o "append" X.env (eval o X.env) = eval o X.env := by rfl)
    (hfew : ((backTo pos (starEach [e] X.env)).all (fun x => !x.1) && (backToKw pos (keywordEach [] X.env)).all (fun x => x.1.isSome) && decide ([e].length + ([] : List Keyword).length + (if ([] : List Keyword).isEmpty then 0 else 1) < 30)) = true := by rfl)
    (hline : (apos.endLine == pos.line) = true := by rfl) (hs : starEach [e] X.env = (false, eval e X.env) :: starEach [] X.env := by rfl) (hplain : (backTo pos (starEach [] X.env)).any (·.1) = false := by rfl)
    (hsw : swapsWith (.Call (.Attribute o "append" apos) [e] [] pos) none pos'.line X.env = pure false := by rfl) :
    WS X (.Expr (.Call (.Attribute o "append" apos) [e] [] pos) pos') D σ H :=
  s_expr (toE (pe_bm PySem.F.plainAttrs_list PySem.F.slot_list_append PySem.F.type_list_append mt_append pE pA hbase hfew hline hs hplain) (WE.mono h fun x H1 ⟨⟨l, xs, e1, hS⟩, k⟩ => by
    subst e1
    exact ⟨.inl ⟨rfl, _, hS⟩, a_cons (WE.mono k fun y H2 ⟨l', xs', a1, a3, a4, q⟩ => a_nil ⟨l', xs', y, a1, rfl, a3, a4, q⟩) hs⟩)) hsw
/-- min(a, b) -/
theorem e_min {a b : Expr} {p : Pos} (hm : X.mg "min" = none) (k : WE X a σ H fun x H1 => WE X b σ H1 fun y H2 => ∃ i j, x = .int i ∧ y = .int j ∧ Q (.int (if j < i then j else i)) H2) (hc : X.calm = true := by rfl) (hg : Gl X "min" := by rfl)
    (he : starEach [a, b] X.env = (false, eval a X.env) :: starEach [b] X.env := by rfl) (he2 : starEach [b] X.env = (false, eval b X.env) :: starEach [] X.env := by rfl) (hpl : (backTo pos (starEach [b] X.env)).any (·.1) = false := by rfl) :
    WE X (.Call (.Name "min" p) [a, b] [] pos) σ H Q :=
  e_callB (call_min2 hc) hm PyProof.Rows.boot_min (a_cons (WE.mono k fun x H1 k1 => a_cons (WE.mono k1 fun y H2 ⟨i, j, e1, e2, q⟩ => a_nil ⟨i, j, by rw [e1, e2], q⟩) he2) he) hg (by decide) (by decide) he hpl
/-- sorted(e), a list of texts; tuple(e), a list -/
theorem e_sorted {p : Pos} (hm : X.mg "sorted" = none) (k : WE X e σ H fun x H1 => ∃ (a : Addr) (xs : List Str), x = V.ref a ∧ SqL X.K H1 a (xs.map V.str) ∧ xs.length < 64 ∧ ∀ (ys : List Str) (p : Addr), ys.Perm xs → sortedS ys = true → H1 p = none → Q (.ref p) (upd H1 p (.lst (ys.map V.str)))) (hg : Gl X "sorted" := by rfl)
    (he : starEach [e] X.env = (false, eval e X.env) :: starEach [] X.env := by rfl) (hpl : (backTo pos (starEach [] X.env)).any (·.1) = false := by rfl) : WE X (.Call (.Name "sorted" p) [e] [] pos) σ H Q :=
  e_callB cr_sortedS hm PyProof.Rows.boot_sorted (a_cons (WE.mono k fun x H1 ⟨a, xs, e1, r⟩ => a_nil ⟨a, xs, by rw [e1], r⟩) he) hg (by decide) (by decide) he hpl
theorem e_tupL {p : Pos} (hm : X.mg "tuple" = none) (k : WE X e σ H fun x H1 => ∃ a xs, x = .ref a ∧ SqL X.K H1 a xs ∧ ∀ q, H1 q = none → Q (.ref q) (upd H1 q (.tup xs))) (hg : Gl X "tuple" := by rfl)
    (he : starEach [e] X.env = (false, eval e X.env) :: starEach [] X.env := by rfl) (hpl : (backTo pos (starEach [] X.env)).any (·.1) = false := by rfl) : WE X (.Call (.Name "tuple" p) [e] [] pos) σ H Q :=
  e_callT call_tuple_of hm PyProof.Rows.boot_tuple (a_cons (WE.mono k fun x H1 ⟨a, xs, e1, hS, r⟩ => a_nil ⟨a, xs, by rw [e1], .inl ⟨hS, r⟩⟩) he) hg (by decide) (by decide) he hpl
theorem e_listL {p : Pos} (hm : X.mg "list" = none) (k : WE X e σ H fun x H1 => ∃ a xs, x = .ref a ∧ (SqL X.K H1 a xs ∨ SqT X.K H1 a xs) ∧ ∀ q, H1 q = none → Q (.ref q) (upd H1 q (.lst xs))) (hg : Gl X "list" := by rfl)
    (he : starEach [e] X.env = (false, eval e X.env) :: starEach [] X.env := by rfl) (hpl : (backTo pos (starEach [] X.env)).any (·.1) = false := by rfl) : WE X (.Call (.Name "list" p) [e] [] pos) σ H Q :=
  e_callT call_list_of hm PyProof.Rows.boot_list (a_cons (WE.mono k fun x H1 ⟨a, xs, e1, hS, r⟩ => a_nil ⟨a, xs, by rw [e1], hS, r⟩) he) hg (by decide) (by decide) he hpl
end
section
variable {X : Cx} {σ : L2.St} {H : Hp} {D : Ends} {pos spos py : Pos} {elt tg iter : Expr} {scope : Scope} {x y : Str}
/-- y = [elt for x in range(a)] as a statement -/
theorem s_lcR {a : Expr} {p pc pt : Pos} (i j : Nat) (hm : X.mg "range" = none) (hN : X.N.Nodup) (ok : BlkOk X.N X.env.scope scope [(x, j)])
    (h : WE X a σ H fun v H1 => ∃ n : Nat, v = .int n ∧ n < 2 ^ 62 ∧ ∀ Dn, H1 Dn = none → ∃ Pv : Nat → Hp → Prop, Pv 0 (upd H1 Dn (.lst [])) ∧
      (∀ i H, i < n → Pv i H → WB X scope elt ((wipe σ [j]).set j (some (.int i))) H fun z H4 => ∃ acc, H4 Dn = some (.lst acc) ∧ acc.length < sizeLine ∧ Pv (i + 1) (upd H4 Dn (.lst (acc ++ [z])))) ∧
      ∀ H, Pv n H → D.nx (σ.set i (some (.ref Dn))) H)
    (hg : ∀ (s : Shared) (H : Hp) (C : Addr) (cl : List (Str × Addr)) (fp : List Addr), PG (X.blk s H scope (compEnvC scope cl C X.env) fp) (.Name x pt) (gName j))
    (hsw : swapsWith (.ListComp elt [⟨.Name x pt, .Call (.Name "range" p) [a] [] pc, [], 0⟩] scope pos) (some (.Name y py)) spos.line X.env = pure true)
    (hy : X.N[i]? = some y := by rfl) (hyl : X.env.scope.names.lookup y = some .local := by rfl)
    (hgl : Gl X "range" := by rfl) (hst : starEach [a] X.env = [(false, eval a X.env)] := by rfl)
    (hc : X.calm = true := by rfl) (hs : ∀ z, foldedSetIterable (.Call (.Name "range" p) [a] [] pc) X.env z = pure z := by intro _; rfl) :
    WS X (.Assign [.Name y py] (.ListComp elt [⟨.Name x pt, .Call (.Name "range" p) [a] [] pc, [], 0⟩] scope pos) spos) D σ H :=
  toS (ps_setLc (own := [(x, j)]) (te := WB X scope elt) hc hN hy hyl hsw (pi_range1 hgl hm (pA (es := [a])) hst) ok hg (fun _ _ _ _ _ => pts_nil) (fun s H0 C cl fp => ⟨fun pins s' σ' H' Q' I q => (q s H0 C cl fp).go pins s' I⟩) hs)
    (a_cons (WE.mono h fun v H1 ⟨n, e, hn, k⟩ => a_nil ⟨(n : Int), by rw [e], by omega, by omega, fun Dn nD => by
      obtain ⟨Pv, p0, ps, pd⟩ := k Dn nD
      have en : ((n : Int)).toNat = n := by omega
      rw [en]
      refine lc_range (g := gName j) (tt := tYes) (te := WB X scope elt) (vs := [j]) (σ := σ) Pv p0 (fun i H hi p => ⟨set_wipe σ j _, ?_⟩) pd
      have e0 : (0 : Int) + (i : Int) = (i : Int) := Int.zero_add _
      rw [e0]
      exact ps i H hi p⟩) (by rw [hst]; rfl))
end
theorem at_map {zs : List Str} {d : Nat} (h : d < zs.length) : atI (zs.map V.str) (d : Int) = some (.str zs[d]) := atI_nat (by rw [List.getElem?_map, List.getElem?_eq_getElem h]; rfl)
theorem at_some {xs : List V} {d : Nat} (h : d < xs.length) : atI xs (d : Int) = some xs[d] := atI_nat (List.getElem?_eq_getElem h)
theorem cut_take (xs : List V) (k : Nat) : cutV xs none (some (k : Int)) = xs.take k := by
  unfold cutV
  rw [HT.sIx_none, HT.sIx_nat, List.drop_zero, Nat.sub_zero]
  by_cases h : k ≤ xs.length
  · rw [Nat.min_eq_left h]
  · rw [Nat.min_eq_right (by omega), List.take_length, List.take_of_length_le (by omega)]
section
variable {X : Cx} {es : List Expr} {σ : L2.St} {H : Hp} {U : List V → Hp → Prop} {pos : Pos}
theorem a_str {z : Str} {j} (h : WA X es σ H fun xs H2 => U (.str z :: xs) H2) : WA X (.Constant (.str z) j pos :: es) σ H U := a_cons (e_str h) rfl
end
section
variable {X : Cx} {e h : Expr} {σ : L2.St} {H : Hp} {Q : VK} {pos p2 : Pos}
/-- e[:k] of a tuple, the whole of it or less -/
theorem e_slK (k : WE X e σ H fun x H1 => WE X h σ H1 fun y H2 => ∃ (i : Nat) (a : Addr) (xs : List V), y = .int i ∧ x = .ref a ∧ H2 a = some (.tup xs) ∧ ∀ q H3, Same H2 H3 → H3 q = some (.tup (xs.take i)) → Q (.ref q) H3) :
    WE X (.Subscript e (.Slice none (some h) none p2) pos) σ H Q :=
  toE (pe_slice sl_tupA pE po_none (po_some pE)) (WE.mono k fun x H1 k1 => WE.mono k1 fun y H2 ⟨i, a, xs, e1, e2, ha, q⟩ => ⟨(i : Int), e1, a, xs, e2, .inl (.inl ha), fun hw => q a H2 (Same.refl _) (by
    have h2 := hw.2
    rw [HT.sIx_nat] at h2
    rw [List.take_of_length_le (by omega)]
    exact ha), fun _ p hp => q p _ (same_new hp) (by rw [upd_same, cut_take])⟩)
end
section
variable {X : Cx} {a b : Expr} {σ : L2.St} {H : Hp} {D : Ends} {pos px py pt pt2 : Pos} {x y : Str} {kt k2 : _}
/-- x, y = a, b -/
theorem s_par (i j : Nat) (h : WA X [a, b] σ H fun vs H1 => ∃ v w, vs = [v, w] ∧ D.nx ((σ.set i (some v)).set j (some w)) H1) (hN : X.N.Nodup) (hij : i ≠ j) (hi : X.N[i]? = some x := by rfl) (hj : X.N[j]? = some y := by rfl)
    (hx : X.env.scope.names.lookup x = some .local := by rfl) (hy : X.env.scope.names.lookup y = some .local := by rfl)
    (hw : swappedStores [.Tuple [.Name x px, .Name y py] kt pt] (.Tuple [a, b] k2 pt2) X.env = pure (some [x, y]) := by rfl)
    (hs : swapsWithSole [.Tuple [.Name x px, .Name y py] kt pt] (.Tuple [a, b] k2 pt2) pos.line X.env = pure false := by rfl) (hc : X.calm = true := by rfl) :
    WS X (.Assign [.Tuple [.Name x px, .Name y py] kt pt] (.Tuple [a, b] k2 pt2) pos) D σ H := toS (ps_par hc hN hi hj hij hx hy pA hw hs) h
end
/-! ### texts: signs, slices, joins -/
def Sm (z : Str) : Prop := ∀ c ∈ z.cps.toList, c < 128
theorem Sm.cat {x y : Str} (hx : Sm x) (hy : Sm y) : Sm (x ++ y) := fun c hc => by
  rw [str_cat] at hc
  rcases List.mem_append.mp hc with h | h
  · exact hx c h
  · exact hy c h
theorem sm_of {z : Str} (h : (z.cps.toList.all fun c => decide (c < 128)) = true) : Sm z := fun c hc => of_decide_eq_true (List.all_eq_true.mp h c hc)
theorem sm_empty : Sm Str.empty := fun c hc => by cases hc
theorem sm_join {y : Str} (hy : Sm y) : ∀ {ps : List Str}, (∀ p ∈ ps, Sm p) → Sm (Txt.join y ps) := by
  intro ps h
  rw [TL.join_eq]
  induction ps with
  | nil => exact sm_empty
  | cons x r ih =>
    cases r with
    | nil => exact h x List.mem_cons_self
    | cons z r => exact ((h x List.mem_cons_self).cat hy).cat (ih fun p hp => h p (List.mem_cons_of_mem _ hp))
theorem sm_cut {z : Str} (h : Sm z) (lo hi : Option Int) : Sm (cutS z lo hi) := fun c hc => by
  have hc' : c ∈ (z.cps.toList.drop (HT.sIx z.length 0 lo)).take (HT.sIx z.length z.length hi - HT.sIx z.length 0 lo) := by
    unfold cutS at hc
    simpa using hc
  exact h c (List.mem_of_mem_drop (List.mem_of_mem_take hc'))
theorem sm_one {z : Str} (h : Sm z) {i : Int} {c : Nat} (e : atI z.cps.toList i = some c) : Sm ⟨#[c]⟩ := fun x hx => by
  have ex : x = c := by simpa using hx
  obtain ⟨j, _, hj⟩ := Option.bind_eq_some_iff.mp (show (ixN z.cps.toList.length i).bind (fun j => z.cps.toList[j]?) = some c from e)
  rw [ex]
  exact h c (List.mem_of_getElem? hj)
theorem shown_str {z : Str} (h : Sm z) (l : z.length ≤ 20000) : (PyData.str z).showable = true ∧ (PyData.str z).depth ≤ 60 ∧ (PyData.str z).shown.length ≤ 10 * z.length + 2 :=
  ⟨rfl, Nat.zero_le _, StrLaws.reprText_len z fun c hc => Nat.lt_of_lt_of_le (h c hc) (by decide)⟩
section
variable {X : Cx} {a b c e l lo hi : Expr} {σ : L2.St} {H : Hp} {Q : VK} {pos p2 apos : Pos}
/-- z[i], z[:k], z[k:] -/
theorem e_ixS (k : WE X a σ H fun x H1 => WE X b σ H1 fun y H2 => ∃ z i c, x = .str z ∧ y = .int i ∧ z.length ≤ sizeLine ∧ atI z.cps.toList i = some c ∧ Q (.str ⟨#[c]⟩) H2) (hs : PlainIx b := by exact fun _ _ => rfl) : WE X (.Subscript a b pos) σ H Q := e_ix ix_str k hs
theorem e_slSto (k : WE X e σ H fun x H1 => WE X hi σ H1 fun y H2 => ∃ i z, y = .int i ∧ x = .str z ∧ z.length ≤ sizeLine ∧ Q (.str (cutS z none (some i))) H2) : WE X (.Subscript e (.Slice none (some hi) none p2) pos) σ H Q :=
  toE (pe_slice sl_str pE po_none (po_some pE)) (WE.mono k fun x H1 k1 => WE.mono k1 fun y H2 ⟨i, z, e1, e2, hz, q⟩ => ⟨i, e1, z, e2, hz, q⟩)
theorem e_slSfrom (k : WE X e σ H fun x H1 => WE X lo σ H1 fun y H2 => ∃ i z, y = .int i ∧ x = .str z ∧ z.length ≤ sizeLine ∧ Q (.str (cutS z (some i) none)) H2) : WE X (.Subscript e (.Slice (some lo) none none p2) pos) σ H Q :=
  toE (pe_slice sl_str pE (po_some pE) po_none) (WE.mono k fun x H1 k1 => WE.mono k1 fun y H2 ⟨i, z, e1, e2, hz, q⟩ => ⟨i, e1, z, e2, hz, q⟩)
theorem e_join {o : Expr} (k : WE X o σ H fun sv H1 => ∃ sep : Str, sv = .str sep ∧ WE X e σ H1 fun v H2 => ∃ p, ∃ ys : List Str, v = .ref p ∧ (SqL X.K H2 p (ys.map V.str) ∨ SqT X.K H2 p (ys.map V.str)) ∧ (ys.map (·.length)).sum + ys.length * sep.length ≤ 16777216 ∧ Q (.str (Txt.join sep ys)) H2)
    (hs : starEach [e] X.env = [(false, eval e X.env)] := by rfl) (hbase : attributeBase o "join" X.env (eval o X.env) = eval o X.env := by rfl) (hline : (apos.endLine == pos.line) = true := by rfl) :
    WE X (.Call (.Attribute o "join" apos) [e] [] pos) σ H Q :=
  toE (pe_join pE pE hs hbase hline) (WE.mono k fun sv H1 ⟨sep, es, k1⟩ => ⟨⟨sep, es⟩, WE.mono k1 fun v H2 ⟨p, ys, ev, hS, hl, q⟩ => ⟨sep, p, ys, es, by rw [ev], hS, hl, q⟩⟩)
end
theorem one_len (c : Nat) : (⟨#[c]⟩ : Str).length = 1 := rfl
theorem join0 : ∀ ps : List Str, (Txt.join Str.empty ps).length = (ps.map (·.length)).sum := fun ps => by
  unfold Txt.join
  rw [size_glued]
  show _ + _ * 0 = _
  omega
end My

namespace My
open PySem PySem.Spec PyProof.Rows L2
/-! ### forms and names: the mirrors -/
abbrev letters : Str := "abcdefghijklmnopqrstuvwxyz"
abbrev resv : List Str := ["select", "distinct", "as", "from", "where", "and", "in"]
def letB (c : Nat) : Bool := decide (c ∈ letters.cps.toList)
def valS (z : Str) : Bool := decide (1 ≤ z.length) && decide (z.length ≤ 8) && z.cps.toList.all letB
def valD : PyData → Bool | .str z => valS z | _ => false
def namD : PyData → Bool | .str z => valS z && !decide (z ∈ resv) | _ => false
def tupD (lo hi : Int) (f : PyData → Bool) : PyData → Bool | .tuple ds => decide (lo ≤ ds.length) && decide ((ds.length : Int) ≤ hi) && ds.all f | _ => false
def strOf : PyData → Str | .str z => z | _ => Str.empty
/-- ascending, no two alike -/
def ascS : List Str → Bool
  | x :: y :: r => decide (x.cps.toList < y.cps.toList) && ascS (y :: r)
  | _ => true
def valsD : PyData → Bool | .tuple ds => decide (1 ≤ ds.length) && decide (ds.length ≤ 8) && ds.all valD && ascS (ds.map strOf) | _ => false
/-! sizes -/
mutual
/-- short texts of small signs, ints that can be shown, no dict but {} -/
def okE : PyData → Bool
  | .str z => decide (z.length ≤ 1000) && z.cps.toList.all fun c => decide (c < 128)
  | .int i => (PyData.int i).showable && decide ((PyData.int i).shown.length ≤ 60) && decide ((PyData.int i).shown.cps.toList.head? ≠ some 39)
  | .tuple ds => okEs ds
  | .list ds => okEs ds
  | .none | .bool _ => true
  | .dict kvs => kvs.isEmpty
def okEs : List PyData → Bool
  | [] => true
  | d :: ds => okE d && okEs ds
end
mutual
def szE : PyData → Nat
  | .str x => 10 * x.length + 5
  | .tuple ds => szEs ds + 5
  | .list ds => szEs ds + 5
  | .int _ => 70
  | .none | .bool _ | .dict _ => 5
def szEs : List PyData → Nat
  | [] => 0
  | d :: ds => szE d + 2 + szEs ds
end
theorem okEs_mem : ∀ {ds : List PyData}, okEs ds = true → ∀ d ∈ ds, okE d = true
  | e :: ds, h, d, hd => by
    have h' : (okE e && okEs ds) = true := h
    rw [Bool.and_eq_true] at h'
    rcases List.mem_cons.mp hd with rfl | hd
    · exact h'.1
    · exact okEs_mem h'.2 d hd
theorem okEs_of : ∀ {ds : List PyData}, (∀ d ∈ ds, okE d = true) → okEs ds = true
  | [], _ => rfl
  | e :: ds, h => by
    show (okE e && okEs ds) = true
    rw [h e List.mem_cons_self, okEs_of fun d hd => h d (List.mem_cons_of_mem _ hd)]
    rfl
theorem szEs_mem : ∀ {ds : List PyData} {d : PyData}, d ∈ ds → szE d + 2 ≤ szEs ds
  | e :: ds, d, hd => by
    show szE d + 2 ≤ szE e + 2 + szEs ds
    rcases List.mem_cons.mp hd with rfl | hd
    · omega
    · have := szEs_mem hd
      omega
theorem szEs_append : ∀ (ds es : List PyData), szEs (ds ++ es) = szEs ds + szEs es
  | [], es => by show szEs es = 0 + szEs es; omega
  | d :: ds, es => by
    show szE d + 2 + szEs (ds ++ es) = szE d + 2 + szEs ds + szEs es
    rw [szEs_append ds es]; omega
theorem len_szEs : ∀ ds : List PyData, ds.length ≤ szEs ds
  | [] => Nat.zero_le _
  | d :: ds => by
    have := len_szEs ds
    show ds.length + 1 ≤ szE d + 2 + szEs ds
    omega
theorem depth_mem : ∀ {ds : List PyData} {d : PyData}, d ∈ ds → d.depth ≤ PyData.depthAll ds
  | e :: ds, d, hd => by
    show d.depth ≤ max (PyData.depth e) (PyData.depthAll ds)
    rcases List.mem_cons.mp hd with rfl | hd
    · exact Nat.le_max_left _ _
    · exact Nat.le_trans (depth_mem hd) (Nat.le_max_right _ _)
mutual
theorem shownE_le : ∀ d : PyData, okE d = true → d.shown.length ≤ szE d
  | .none, _ => by decide
  | .bool true, _ => by decide
  | .bool false, _ => by decide
  | .str x, h => by
    have h' : (decide (x.length ≤ 1000) && x.cps.toList.all fun c => decide (c < 128)) = true := h
    rw [Bool.and_eq_true] at h'
    show (reprText x).length ≤ 10 * x.length + 5
    have := StrLaws.reprText_len x (fun c hc => Nat.lt_of_lt_of_le (of_decide_eq_true (List.all_eq_true.mp h'.2 c hc)) (by decide))
    omega
  | .tuple ds, h => by
    show (tupleText (PyData.shownAll ds)).length ≤ szEs ds + 5
    have h1 := tupleText_len_le (PyData.shownAll ds)
    have h2 := shownEs_le ds h
    omega
  | .list ds, h => by
    show (listText (PyData.shownAll ds)).length ≤ szEs ds + 5
    have h1 := listText_len_le (PyData.shownAll ds)
    have h2 := shownEs_le ds h
    omega
  | .int i, h => by
    have h' : ((PyData.int i).showable && decide ((PyData.int i).shown.length ≤ 60) && decide ((PyData.int i).shown.cps.toList.head? ≠ some 39)) = true := h
    rw [Bool.and_eq_true, Bool.and_eq_true] at h'
    exact Nat.le_trans (of_decide_eq_true h'.1.2) (show (60 : Nat) ≤ 70 by decide)
  | .dict [], _ => by decide
  | .dict (_ :: _), h => by cases h
theorem shownEs_le : ∀ ds : List PyData, okEs ds = true → ((PyData.shownAll ds).map (·.length)).sum + 2 * (PyData.shownAll ds).length ≤ szEs ds
  | [], _ => by decide
  | d :: ds, h => by
    have h' : (okE d && okEs ds) = true := h
    simp only [Bool.and_eq_true] at h'
    have h1 := shownE_le d h'.1
    have h2 := shownEs_le ds h'.2
    show (((PyData.shown d) :: PyData.shownAll ds).map (·.length)).sum + 2 * ((PyData.shown d) :: PyData.shownAll ds).length ≤ szE d + 2 + szEs ds
    rw [List.map_cons, List.sum_cons, List.length_cons]
    omega
end
mutual
theorem showableE : ∀ d : PyData, okE d = true → d.showable = true
  | .none, _ => rfl
  | .bool _, _ => rfl
  | .str _, _ => rfl
  | .tuple ds, h => showablesE ds h
  | .list ds, h => showablesE ds h
  | .int i, h => by
    have h' : ((PyData.int i).showable && decide ((PyData.int i).shown.length ≤ 60) && decide ((PyData.int i).shown.cps.toList.head? ≠ some 39)) = true := h
    rw [Bool.and_eq_true, Bool.and_eq_true] at h'
    exact h'.1.1
  | .dict [], _ => rfl
  | .dict (_ :: _), h => by cases h
theorem showablesE : ∀ ds : List PyData, okEs ds = true → PyData.showableAll ds = true
  | [], _ => rfl
  | d :: ds, h => by
    have h' : (okE d && okEs ds) = true := h
    simp only [Bool.and_eq_true] at h'
    show (PyData.showable d && PyData.showableAll ds) = true
    rw [showableE d h'.1, showablesE ds h'.2]
    rfl
end
/-- data of forms -/
def okS (d : PyData) : Bool := okE d && decide (szE d ≤ 1000000) && decide (d.depth ≤ 50)
theorem okS_iff {d : PyData} : okS d = true ↔ okE d = true ∧ szE d ≤ 1000000 ∧ d.depth ≤ 50 := by
  unfold okS
  rw [Bool.and_eq_true, Bool.and_eq_true, decide_eq_true_eq, decide_eq_true_eq]
  exact ⟨fun ⟨⟨a, b⟩, c⟩ => ⟨a, b, c⟩, fun ⟨a, b, c⟩ => ⟨⟨a, b⟩, c⟩⟩
theorem okS_t {ds : List PyData} (h : okS (.tuple ds) = true) : ∀ d ∈ ds, okS d = true := fun d hd => by
  obtain ⟨h1, h2, h3⟩ := okS_iff.mp h
  have h2' : szEs ds + 5 ≤ 1000000 := h2
  have h3' : PyData.depthAll ds + 1 ≤ 50 := h3
  have := szEs_mem hd
  have := depth_mem hd
  exact okS_iff.mpr ⟨okEs_mem h1 d hd, by omega, by omega⟩
theorem okS_l {ds : List PyData} (h : okS (.list ds) = true) : ∀ d ∈ ds, okS d = true := okS_t h
theorem okS_repr {d : PyData} (h : okS d = true) : d.showable = true ∧ d.depth ≤ 60 ∧ d.shown.length ≤ sizeLine := by
  obtain ⟨h1, h2, h3⟩ := okS_iff.mp h
  exact ⟨showableE d h1, by omega, Nat.le_trans (shownE_le d h1) (Nat.le_trans h2 (by decide))⟩
theorem str_line {z : Str} (h : okS (.str z) = true) : z.length ≤ sizeLine := by
  obtain ⟨h1, _⟩ := okS_iff.mp h
  have h' : (decide (z.length ≤ 1000) && z.cps.toList.all fun c => decide (c < 128)) = true := h1
  rw [Bool.and_eq_true] at h'
  exact Nat.le_trans (of_decide_eq_true h'.1) (by decide)
theorem okS_sm {z : Str} (h : okS (.str z) = true) : Sm z := by
  obtain ⟨h1, _⟩ := okS_iff.mp h
  have h' : (decide (z.length ≤ 1000) && z.cps.toList.all fun c => decide (c < 128)) = true := h1
  rw [Bool.and_eq_true] at h'
  exact sm_of h'.2
def spB (f : PyData → Bool) : Sp := fun vs H Q _ => ∃ S v d, vs = [v] ∧ DG S H v d ∧ okS d = true ∧ ∀ H', Same H H' → Q (.bl (f d)) H'
theorem sqL_same {K : PySem.W.Frag} {H H' : Hp} {a : Addr} {xs : List V} (e : Same H H') (h : SqL K H a xs) : SqL K H' a xs := by
  rcases h with (h | ⟨o, h⟩) | h
  · exact .inl (.inl (e _ _ h))
  · exact .inl (.inr ⟨o, e _ _ h⟩)
  · exact .inr h
/-- a dict of the program's top with text keys, read alone -/
def keyZ (e : DictEntry) : Option Str := match e.key with | .str x _ => some x | _ => none
structure KSt (w : World) (K : PySem.W.Frag) (a : Addr) (zs : List Str) : Prop where
  ex : ∃ es n, KDict K w a es n ∧ es.toList.map keyZ = zs.map some
/-- what the top leaves of the names that forms and names use -/
structure Bf (w : World) (K : PySem.W.Frag) (mg : Str → Option Value) : Prop where
  len : mg "len" = none
  isi : mg "isinstance" = none
  str : mg "str" = none
  tuple : mg "tuple" = none
  all : mg "all" = none
  set : mg "set" = none
  sorted : mg "sorted" = none
  most : ∃ t, mg "MOST_LETTERS" = some (.int 8 t)
  mostV : ∃ t, mg "MOST_VALUES" = some (.int 8 t)
  resv : ∃ a, mg "RESERVED" = some (.ref a) ∧ KSt w K a resv
section
variable {X : Cx} {σ : L2.St} {H : Hp} {Q : VK} {pos p pc : Pos} {elt iter : Expr} {scope : Scope} {x : Str}
/-- all([f(x) for x in a tuple]) -/
theorem e_allT {pt : Pos} (j : Nat) (f : PyData → Bool) (hm : X.mg "all" = none) (hN : X.N.Nodup) (okb : BlkOk X.N X.env.scope scope [(x, j)])
    (h : WE X iter σ H fun v H1 => ∃ S ds a xs, v = .ref a ∧ H1 a = some (.tup xs) ∧ DGs S H1 xs ds ∧ ds.length ≤ 1000 ∧
      (∀ d ∈ ds, ∀ u H2, Same H1 H2 → DG S H2 u d → WB X scope elt ((wipe σ [j]).set j (some u)) H2 fun y H3 => y = .bl (f d) ∧ Same H2 H3) ∧ ∀ H2, Same H1 H2 → Q (.bl (ds.all f)) H2)
    (hg : ∀ (s : Shared) (H : Hp) (C : Addr) (cl : List (Str × Addr)) (fp : List Addr), PG (X.blk s H scope (compEnvC scope cl C X.env) fp) (.Name x pt) (gName j))
    (hgl : Gl X "all" := by rfl) (hc : X.calm = true := by rfl) (hs : ∀ z, foldedSetIterable iter X.env z = pure z := by intro _; rfl)
    (he : starEach [.ListComp elt [⟨.Name x pt, iter, [], 0⟩] scope pc] X.env = (false, eval (.ListComp elt [⟨.Name x pt, iter, [], 0⟩] scope pc) X.env) :: starEach [] X.env := by rfl)
    (hpl : (backTo pos (starEach [] X.env)).any (·.1) = false := by rfl) :
    WE X (.Call (.Name "all" p) [.ListComp elt [⟨.Name x pt, iter, [], 0⟩] scope pc] [] pos) σ H Q := by
  refine e_callB (cr_all hc) hm (by decide +kernel) (a_cons ?_ he) hgl (by decide) (by decide) he hpl
  refine e_lcT j hN okb (WE.mono h fun v H1 ⟨S, ds, a, xs, e, ha, hds, h1000, hel, q⟩ => ⟨a, xs, e, .inl (.inl ha), fun D nD => ?_⟩) hg hc hs
  have lx := hds.length
  refine ⟨fun i H' => Same H1 H' ∧ H' D = some (.lst (((ds.take i).map f).map V.bl)), ⟨same_new nD, upd_same⟩, fun i H' hi p => .inl (.inl (p.1 _ _ ha)), fun i y H' hi p => ?_, fun H' p => a_nil ⟨D, (ds.take xs.length).map f, rfl, .inl (.inl p.2), ?_⟩⟩
  · obtain ⟨d, hd, hy⟩ := hds.get hi
    intro s0 H00 C cl fp
    refine WE.mono (hel d (List.mem_of_getElem? hd) y H' p.1 (hy.same p.1) s0 H00 C cl fp) fun z H4 ⟨ez, s4⟩ => ?_
    subst ez
    have lt : i < ds.length := (List.getElem?_eq_some_iff.mp hd).1
    refine ⟨_, s4 _ _ p.2, ?_, same_mut (p.1.trans s4) nD, ?_⟩
    · rw [List.length_map, List.length_map, List.length_take]
      exact Nat.lt_of_lt_of_le (show min i ds.length < 1001 by omega) (by decide)
    · rw [upd_same, List.take_succ_eq_append_getElem lt]
      have e : ds[i] = d := by rw [List.getElem?_eq_getElem lt] at hd; exact Option.some.inj hd
      rw [e, List.map_append, List.map_append]
      rfl
  · rw [lx, List.take_length, List.all_map]
    exact q H' p.1
/-- all([f(c) for c in a text]) -/
theorem e_allS {pt : Pos} (j : Nat) (f : Nat → Bool) (hm : X.mg "all" = none) (hN : X.N.Nodup) (okb : BlkOk X.N X.env.scope scope [(x, j)])
    (h : WE X iter σ H fun v H1 => ∃ z : Str, v = .str z ∧ z.length ≤ 1000 ∧
      (∀ c ∈ z.cps.toList, ∀ H2, Same H1 H2 → WB X scope elt ((wipe σ [j]).set j (some (.str ⟨#[c]⟩))) H2 fun y H3 => y = .bl (f c) ∧ Same H2 H3) ∧ ∀ H2, Same H1 H2 → Q (.bl (z.cps.toList.all f)) H2)
    (hg : ∀ (s : Shared) (H : Hp) (C : Addr) (cl : List (Str × Addr)) (fp : List Addr), PG (X.blk s H scope (compEnvC scope cl C X.env) fp) (.Name x pt) (gName j))
    (hgl : Gl X "all" := by rfl) (hc : X.calm = true := by rfl) (hs : ∀ z, foldedSetIterable iter X.env z = pure z := by intro _; rfl)
    (he : starEach [.ListComp elt [⟨.Name x pt, iter, [], 0⟩] scope pc] X.env = (false, eval (.ListComp elt [⟨.Name x pt, iter, [], 0⟩] scope pc) X.env) :: starEach [] X.env := by rfl)
    (hpl : (backTo pos (starEach [] X.env)).any (·.1) = false := by rfl) :
    WE X (.Call (.Name "all" p) [.ListComp elt [⟨.Name x pt, iter, [], 0⟩] scope pc] [] pos) σ H Q := by
  refine e_callB (cr_all hc) hm (by decide +kernel) (a_cons ?_ he) hgl (by decide) (by decide) he hpl
  refine e_lcS j hN okb (WE.mono h fun v H1 ⟨z, e, hz, hel, q⟩ => ⟨z, e, fun D nD => ?_⟩) hg hc hs
  have hz' : z.cps.toList.length ≤ 1000 := by rw [Array.length_toList]; exact hz
  refine ⟨fun i H' => Same H1 H' ∧ H' D = some (.lst (((z.cps.toList.take i).map f).map V.bl)), ⟨same_new nD, upd_same⟩, fun i c H' hi p => ?_, fun H' p => a_nil ⟨D, (z.cps.toList.take z.cps.size).map f, rfl, .inl (.inl p.2), ?_⟩⟩
  · have hi' : z.cps.toList[i]? = some c := by rw [Array.getElem?_toList]; exact hi
    intro s0 H00 C cl fp
    refine WE.mono (hel c (List.mem_of_getElem? hi') H' p.1 s0 H00 C cl fp) fun u H4 ⟨eu, s4⟩ => ?_
    subst eu
    have lt : i < z.cps.toList.length := (List.getElem?_eq_some_iff.mp hi').1
    refine ⟨_, s4 _ _ p.2, ?_, same_mut (p.1.trans s4) nD, ?_⟩
    · rw [List.length_map, List.length_map, List.length_take]
      exact Nat.lt_of_lt_of_le (show min i z.cps.toList.length < 1001 by omega) (by decide)
    · rw [upd_same, List.take_succ_eq_append_getElem lt]
      have e : z.cps.toList[i] = c := by rw [List.getElem?_eq_getElem lt] at hi'; exact Option.some.inj hi'
      rw [e, List.map_append, List.map_append]
      rfl
  · have e : z.cps.size = z.cps.toList.length := by rw [Array.length_toList]
    rw [e, List.take_length, List.all_map]
    exact q H' p.1
end
section
variable {P : Program} {w : World} {K : PySem.W.Frag} {mg : Str → Option Value} {base : Heap}
/-- the def at g says f of any object -/
structure Says (P : Program) (w : World) (K : PySem.W.Frag) (mg : Str → Option Value) (base : Heap) (k : Nat) (g : Addr) (f : PyData → Bool) : Prop where
  ex : ∃ (fd : FuncData) (ps : List Str), FnOk P w K mg base CX0 k g fd ps (spB f) ∧ PySem.W.keepIn K (.ref g) = true ∧ Binds K fd ps []
def spTO (P : Program) (w : World) (K : PySem.W.Frag) (mg : Str → Option Value) (base : Heap) (k : Nat) : Sp := fun vs H Q _ => ∃ S v d lo hi g f, vs = [v, .int lo, .int hi, .ref g] ∧ Says P w K mg base k g f ∧ hi ≤ 1000 ∧ DG S H v d ∧ okS d = true ∧ ∀ H', Same H H' → Q (.bl (tupD lo hi f d)) H'
end
/-! ### ascending texts -/
abbrev lt (a b : Str) : Prop := a.cps.toList < b.cps.toList
theorem lt_tri {a b : Str} (h : ¬ lt a b) (k : ¬ lt b a) : a = b := str_ext (List.le_antisymm k h)
theorem lt_trans {a b c : Str} (h : lt a b) (k : lt b c) : lt a c := List.lt_trans h k
theorem lt_irr (a : Str) : ¬ lt a a := List.lt_irrefl _
theorem le_trans {a b c : Str} (h : ¬ lt b a) (k : ¬ lt c b) : ¬ lt c a := fun z => by
  by_cases e : a = b
  · subst e; exact k z
  · have : lt a b := by
      by_cases q : lt a b
      · exact q
      · exact absurd (lt_tri q h) e
    exact k (lt_trans z this)
theorem asc_iff : ∀ zs : List Str, ascS zs = true ↔ zs.Pairwise lt
  | [] => by simp [ascS]
  | [x] => by simp [ascS]
  | x :: y :: r => by
    have ih := asc_iff (y :: r)
    show (decide (lt x y) && ascS (y :: r)) = true ↔ _
    rw [Bool.and_eq_true, decide_eq_true_eq, ih, List.pairwise_cons (a := x)]
    constructor
    · rintro ⟨h, k⟩
      refine ⟨fun z hz => ?_, k⟩
      rcases List.mem_cons.mp hz with rfl | hz
      · exact h
      · exact lt_trans h ((List.pairwise_cons.mp k).1 z hz)
    · rintro ⟨h, k⟩
      exact ⟨h y List.mem_cons_self, k⟩
theorem sorted_pw : ∀ (ys : List Str) (x : Str), risingS x ys = true → (x :: ys).Pairwise fun a b => ¬ lt b a
  | [], x, _ => by simp
  | y :: ys, x, h => by
    have h' : (!ltCps y.cps.toList x.cps.toList && risingS y ys) = true := h
    rw [Bool.and_eq_true, ltCps_eq] at h'
    have h1 : ¬ lt y x := by simpa using h'.1
    have ih := sorted_pw ys y h'.2
    refine List.pairwise_cons.mpr ⟨fun z hz => ?_, ih⟩
    rcases List.mem_cons.mp hz with rfl | hz
    · exact h1
    · exact le_trans h1 ((List.pairwise_cons.mp ih).1 z hz)
theorem sortedS_pw {ys : List Str} (h : sortedS ys = true) : ys.Pairwise fun a b => ¬ lt b a := by
  cases ys with
  | nil => exact .nil
  | cons y ys => exact sorted_pw ys y h
theorem asc_eq {zs ys : List Str} (hp : ys.Perm zs) (hs : sortedS ys = true) : (decide (zs = ys) && decide zs.Nodup) = ascS zs := by
  have pw := sortedS_pw hs
  apply Bool.eq_iff_iff.mpr
  rw [Bool.and_eq_true, decide_eq_true_eq, decide_eq_true_eq, asc_iff]
  constructor
  · rintro ⟨e, n⟩
    subst e
    refine (pw.and n).imp fun {a b} ⟨h1, h2⟩ => ?_
    by_cases q : lt a b
    · exact q
    · exact absurd (lt_tri q h1) h2
  · intro h
    have pw2 : zs.Pairwise fun a b => ¬ lt b a := h.imp fun {a b} h1 h2 => lt_irr a (lt_trans h1 h2)
    exact ⟨List.Perm.eq_of_pairwise (fun a b _ _ h1 h2 => lt_tri h2 h1) pw2 pw hp.symm, h.imp (S := fun a b => a ≠ b) fun {a b} h1 h2 => lt_irr a (by rw [← h2] at h1; exact h1)⟩
theorem eqv_strs : ∀ (zs ys : List Str), PyData.eqvAll (zs.map PyData.str) (ys.map PyData.str) = decide (zs = ys)
  | [], [] => rfl
  | [], y :: ys => rfl
  | z :: zs, [] => rfl
  | z :: zs, y :: ys => by
    show ((z == y) && PyData.eqvAll (zs.map PyData.str) (ys.map PyData.str)) = _
    rw [eqv_strs zs ys]
    apply Bool.eq_iff_iff.mpr
    simp
/-! ### data that are texts -/
theorem strs_of {S : Addr → Prop} {H : Hp} : ∀ {xs : List V} {ds : List PyData}, DGs S H xs ds → ds.all valD = true → ds = (ds.map strOf).map PyData.str ∧ xs = (ds.map strOf).map V.str ∧ (ds.map strOf).all valS = true
  | _, _, .nil, _ => ⟨rfl, rfl, rfl⟩
  | _, _, .cons (d := d) h hs, e => by
    have e' : (valD d && _) = true := e
    rw [Bool.and_eq_true] at e'
    obtain ⟨h1, h2, h3⟩ := strs_of hs e'.2
    cases h with
    | str z => exact ⟨by rw [List.map_cons, List.map_cons]; exact congrArg _ h1, by rw [List.map_cons, List.map_cons]; exact congrArg _ h2, by rw [List.map_cons, List.all_cons, h3, Bool.and_true]; exact e'.1⟩
    | _ => exact absurd e'.1 (by simp [valD])
theorem let_small : ∀ c, letB c = true → c < 128 := fun c h => by
  have h' : c ∈ letters.cps.toList := of_decide_eq_true h
  have : ∀ x ∈ letters.cps.toList, x < 128 := by decide +kernel
  exact this c h'
theorem val_small {z : Str} (h : valS z = true) : z.length ≤ 8 ∧ ∀ c ∈ z.cps.toList, c < 128 := by
  unfold valS at h
  simp only [Bool.and_eq_true, decide_eq_true_eq, List.all_eq_true] at h
  exact ⟨h.1.2, fun c hc => let_small c (h.2 c hc)⟩
theorem lay_strs : ∀ {zs : List Str}, zs.all valS = true → PyData.canLayAll0 (zs.map PyData.str) = true
  | [], _ => rfl
  | z :: zs, h => by
    rw [List.all_cons, Bool.and_eq_true] at h
    show (PyData.canLay0 (.str z) && PyData.canLayAll0 (zs.map PyData.str)) = true
    rw [lay_strs h.2, Bool.and_true]
    show (z.cps.all fun c => decide (c < 0x110000)) = true
    rw [← Array.all_toList, List.all_eq_true]
    exact fun c hc => decide_eq_true (Nat.lt_of_lt_of_le ((val_small h.1).2 c hc) (by decide))
theorem depth_strs : ∀ zs : List Str, PyData.depthAll (zs.map PyData.str) = 0
  | [] => rfl
  | z :: zs => by show max 0 (PyData.depthAll (zs.map PyData.str)) = 0; rw [depth_strs zs]; rfl
theorem shaped_strs {zs : List Str} (h : zs.all valS = true) : SeqAt.shaped (.tuple (zs.map PyData.str)) = true := by
  show (PyData.canLayAll0 (zs.map PyData.str) && decide (PyData.depthAll (zs.map PyData.str) + 1 ≤ 64)) = true
  rw [lay_strs h, depth_strs]
  rfl
theorem dps_strs {K : PySem.W.Frag} {H : Hp} : ∀ zs : List Str, DpAll K H (zs.map V.str) (zs.map PyData.str)
  | [] => .nil
  | z :: zs => .cons (.str z) (dps_strs zs)
theorem inV_strs (z : Str) : ∀ zs : List Str, inV (.str z) (zs.map V.str) = decide (z ∈ zs)
  | [] => rfl
  | y :: zs => by
    show ((y == z) || inV (.str z) (zs.map V.str)) = _
    rw [inV_strs z zs]
    apply Bool.eq_iff_iff.mpr
    simp only [Bool.or_eq_true, beq_iff_eq, decide_eq_true_eq, List.mem_cons]
    exact ⟨fun h => h.elim (fun e => .inl e.symm) .inr, fun h => h.elim (fun e => .inl e.symm) .inr⟩
theorem flat_strs' : ∀ zs : List Str, (zs.map V.str).all flatV = true
  | [] => rfl
  | z :: zs => by show (true && (zs.map V.str).all flatV) = true; rw [flat_strs' zs]; rfl
def spDiff (K : PySem.W.Frag) : Sp := fun vs H Q _ => ∃ a, ∃ xs : List Str, vs = [.ref a] ∧ (SqL K H a (xs.map V.str) ∨ SqT K H a (xs.map V.str)) ∧ xs.length ≤ 1000 ∧ Q (.bl (decide xs.Nodup)) H
theorem letters_are : letters.cps.toList = List.range' 97 26 := by decide +kernel
theorem one_lt (a b : Nat) : ([a] : List Nat) < [b] ↔ a < b := by
  constructor
  · intro h
    rcases List.cons_lt_cons_iff.mp h with h | ⟨_, h⟩
    · exact h
    · exact absurd h (List.lt_irrefl _)
  · exact fun h => List.cons_lt_cons_iff.mpr (.inl h)
theorem let_btw (c : Nat) : letB c = (!decide (([c] : List Nat) < [97]) && !decide (([122] : List Nat) < [c])) := by
  unfold letB
  rw [letters_are]
  apply Bool.eq_iff_iff.mpr
  rw [decide_eq_true_eq, List.mem_range'_1, Bool.and_eq_true, Bool.not_eq_true', Bool.not_eq_true', decide_eq_false_iff_not, decide_eq_false_iff_not, one_lt, one_lt]
  omega
theorem asc_range : ∀ zs : List Str, ascS zs = (List.range (zs.length - 1)).all fun k => decide (lt (zs.getD k Str.empty) (zs.getD (k + 1) Str.empty))
  | [] => rfl
  | [x] => rfl
  | x :: y :: r => by
    have ih := asc_range (y :: r)
    show (decide (lt x y) && ascS (y :: r)) = (List.range (r.length + 1)).all _
    rw [ih, List.range_succ_eq_map, List.all_cons, List.all_map]
    rfl
section
variable {X : Cx} {a b c e : Expr} {σ : L2.St} {H : Hp} {Q : VK} {pos p pc pr pcr : Pos} {elt : Expr} {scope : Scope} {x : Str}
/-- x <= e <= y, texts -/
theorem e_btwS (k : WE X a σ H fun x H1 => WE X b σ H1 fun y H2 => ∃ i j, x = .str i ∧ y = .str j ∧ (¬ j.cps.toList < i.cps.toList → WE X c σ H2 fun z H3 => ∃ m, z = .str m ∧ Q (.bl (!decide (m.cps.toList < j.cps.toList))) H3) ∧ (j.cps.toList < i.cps.toList → Q (.bl false) H2))
    (hm : lastMarks [.LtE, .LtE] [b, c] = false := by with_unfolding_all rfl) : WE X (.Compare a [.LtE, .LtE] [b, c] pos) σ H Q :=
  e_chain op_le_str op_le_str (WE.mono k fun x H1 k1 => WE.mono k1 fun y H2 ⟨i, j, e1, e2, h1, h2⟩ => ⟨i, j, e1, e2, !decide (j.cps.toList < i.cps.toList), rfl, by
    by_cases hij : j.cps.toList < i.cps.toList
    · rw [decide_eq_true hij]
      exact h2 hij
    · rw [decide_eq_false hij]
      exact WE.mono (h1 hij) fun z H3 ⟨m, e3, r⟩ => ⟨j, m, e2, e3, r⟩⟩) hm
/-- all([f(k) for k in range(n)]) -/
theorem e_allR {pt : Pos} (j : Nat) (f : Nat → Bool) (hm : X.mg "all" = none) (hr : X.mg "range" = none) (hN : X.N.Nodup) (okb : BlkOk X.N X.env.scope scope [(x, j)])
    (h : WE X a σ H fun v H1 => ∃ n : Nat, v = .int n ∧ n ≤ 1000 ∧ (∀ i, i < n → ∀ H2, Same H1 H2 → WB X scope elt ((wipe σ [j]).set j (some (.int i))) H2 fun y H3 => y = .bl (f i) ∧ Same H2 H3) ∧ ∀ H2, Same H1 H2 → Q (.bl ((List.range n).all f)) H2)
    (hg : ∀ (s : Shared) (H : Hp) (C : Addr) (cl : List (Str × Addr)) (fp : List Addr), PG (X.blk s H scope (compEnvC scope cl C X.env) fp) (.Name x pt) (gName j))
    (hgl : Gl X "all" := by rfl) (hgr : Gl X "range" := by rfl) (hst : starEach [a] X.env = [(false, eval a X.env)] := by rfl) (hc : X.calm = true := by rfl) (hs : ∀ z, foldedSetIterable (.Call (.Name "range" pr) [a] [] pcr) X.env z = pure z := by intro _; rfl)
    (he : starEach [.ListComp elt [⟨.Name x pt, .Call (.Name "range" pr) [a] [] pcr, [], 0⟩] scope pc] X.env = (false, eval (.ListComp elt [⟨.Name x pt, .Call (.Name "range" pr) [a] [] pcr, [], 0⟩] scope pc) X.env) :: starEach [] X.env := by rfl)
    (hpl : (backTo pos (starEach [] X.env)).any (·.1) = false := by rfl) :
    WE X (.Call (.Name "all" p) [.ListComp elt [⟨.Name x pt, .Call (.Name "range" pr) [a] [] pcr, [], 0⟩] scope pc] [] pos) σ H Q := by
  refine e_callB (cr_all hc) hm (by decide +kernel) (a_cons ?_ he) hgl (by decide) (by decide) he hpl
  refine e_lcR j hr hN okb (WE.mono h fun v H1 ⟨n, e, hn, hel, q⟩ => ⟨n, e, by omega, fun D nD => ?_⟩) hg hgr hst hc hs
  refine ⟨fun i H' => Same H1 H' ∧ H' D = some (.lst (((List.range i).map f).map V.bl)), ⟨same_new nD, upd_same⟩, fun i H' hi p => ?_, fun H' p => a_nil ⟨D, (List.range n).map f, rfl, .inl (.inl p.2), ?_⟩⟩
  · intro s0 H00 C cl fp
    refine WE.mono (hel i hi H' p.1 s0 H00 C cl fp) fun u H4 ⟨eu, s4⟩ => ?_
    subst eu
    refine ⟨_, s4 _ _ p.2, ?_, same_mut (p.1.trans s4) nD, ?_⟩
    · rw [List.length_map, List.length_map, List.length_range]
      exact Nat.lt_of_lt_of_le (show i < 1001 by omega) (by decide)
    · rw [upd_same, List.range_succ, List.map_append, List.map_append]
      rfl
  · rw [List.all_map]
    exact q H' p.1
end
def wd (z : Str) : Prop := z.length ≤ 60 ∧ Sm z
def wdB (z : Str) : Bool := decide (z.length ≤ 14) && z.cps.toList.all fun c => decide (c < 128)
theorem wd_of {z : Str} (h : wdB z = true) : z.length ≤ 14 ∧ Sm z := by
  unfold wdB at h
  rw [Bool.and_eq_true] at h
  exact ⟨of_decide_eq_true h.1, sm_of h.2⟩
theorem wds_of {zs : List Str} (h : zs.all wdB = true) : ∀ z ∈ zs, z.length ≤ 14 ∧ Sm z := fun z hz => wd_of (List.all_eq_true.mp h z hz)
end My

namespace My
open PySem PySem.Spec PyProof.Rows L2
/-! ### the pure layer: what an expression gives of data, and nothing else changes -/
abbrev Rho := List (Option PyData)
structure SL (S : Addr → Prop) (H : Hp) (σ : L2.St) (ρ : Rho) : Prop where
  dom : ∀ a, S a → H a ≠ none
  look : ∀ (i : Nat) (d : PyData), ρ[i]? = some (some d) → ∃ v, σ[i]? = some (some v) ∧ DG S H v d
  len : σ.length = ρ.length
section
variable {S : Addr → Prop} {H H' : Hp} {σ : L2.St} {ρ : Rho} {i : Nat} {v : V} {d : PyData}
theorem SL.same (h : SL S H σ ρ) (e : Same H H') : SL S H' σ ρ := ⟨in_same e h.dom, fun i d q => let ⟨v, a, b⟩ := h.look i d q; ⟨v, a, b.same e⟩, h.len⟩
theorem SL.set (h : SL S H σ ρ) (hv : DG S H v d) : SL S H (σ.set i (some v)) (ρ.set i (some d)) := by
  refine ⟨h.dom, fun j e q => ?_, by rw [List.length_set, List.length_set]; exact h.len⟩
  by_cases ij : i = j
  · subst ij
    by_cases lt : i < ρ.length
    · rw [List.getElem?_set_self lt] at q
      cases q
      exact ⟨v, List.getElem?_set_self (by rw [h.len]; exact lt), hv⟩
    · rw [List.getElem?_eq_none (by rw [List.length_set]; omega)] at q
      cases q
  · rw [List.getElem?_set_ne ij] at q
    obtain ⟨u, a, b⟩ := h.look j e q
    exact ⟨u, by rw [List.getElem?_set_ne ij]; exact a, b⟩
theorem SL.wipe (h : SL S H σ ρ) : SL S H (L2.wipe σ [i]) (ρ.set i none) := by
  show SL S H (σ.set i none) (ρ.set i none)
  refine ⟨h.dom, fun j e q => ?_, by rw [List.length_set, List.length_set]; exact h.len⟩
  by_cases ij : i = j
  · subst ij
    by_cases lt : i < ρ.length
    · rw [List.getElem?_set_self lt] at q; cases q
    · rw [List.getElem?_eq_none (by rw [List.length_set]; omega)] at q; cases q
  · rw [List.getElem?_set_ne ij] at q
    obtain ⟨u, a, b⟩ := h.look j e q
    exact ⟨u, by rw [List.getElem?_set_ne ij]; exact a, b⟩
/-- a new object at p that is still written to -/
abbrev And1 (S : Addr → Prop) (p : Addr) : Addr → Prop := fun a => S a ∨ a = p
theorem DG.and1 {o : HO} {p : Addr} (hp : H p = none) (h : DG S H v d) : DG (And1 S p) (L2.upd H p o) v d :=
  h.mono (My.Same.tups (same_new hp)) fun a u n e => ⟨fun z => z.elim n fun z => (by rw [z, hp] at e; cases e), by rw [upd_ne (ne_of_none e hp)]; exact e⟩
theorem SL.and1 {o : HO} {p : Addr} (hp : H p = none) (h : SL S H σ ρ) : SL (And1 S p) (L2.upd H p o) σ ρ :=
  ⟨fun a z => z.elim (fun z => in_same (same_new hp) h.dom a z) fun z w => (by rw [z, upd_same] at w; cases w), fun i d q => let ⟨v, a, b⟩ := h.look i d q; ⟨v, a, b.and1 hp⟩, h.len⟩
theorem DGs.un1 {p : Addr} {vs : List V} {ds : List PyData} (h : DGs (And1 S p) H vs ds) : DGs S H vs ds := h.mono (Tup.refl _) fun a o n e => ⟨fun z => n (.inl z), e⟩
theorem DGs.put {p : Addr} {xs ys : List V} {vs : List V} {ds : List PyData} (hp : H p = some (.lst xs)) (h : DGs (And1 S p) H vs ds) : DGs (And1 S p) (L2.upd H p (.lst ys)) vs ds :=
  h.mono (Tup.set hp) fun a o n e => ⟨n, by rw [upd_ne fun z => n (.inr z)]; exact e⟩
end
section
variable (X : Cx) (ρ : Rho)
def ED (e : Expr) (d : PyData) : Prop := ∀ (S : Addr → Prop) (σ : L2.St) (H : Hp) (Q : VK), SL S H σ ρ → (∀ v H', Same H H' → DG S H' v d → Q v H') → WE X e σ H Q
def TD (e : Expr) (b : Bool) : Prop := ∀ (S : Addr → Prop) (σ : L2.St) (H : Hp) (R : Bool → Hp → Prop), SL S H σ ρ → (∀ H', Same H H' → R b H') → WT X e σ H R
def WD (e : Expr) (b : Bool) : Prop := ∀ (S : Addr → Prop) (σ : L2.St) (H : Hp) (R : Bool → Hp → Prop), SL S H σ ρ → (∀ H', Same H H' → R b H') → WW X e σ H R
def AD (es : List Expr) (ds : List PyData) : Prop := ∀ (S : Addr → Prop) (σ : L2.St) (H : Hp) (U : List V → Hp → Prop), SL S H σ ρ → (∀ vs H', Same H H' → DGs S H' vs ds → U vs H') → WA X es σ H U
end
inductive Out | ret (d : PyData) | nx (ρ : Rho)
def Out.Is (S : Addr → Prop) (H : Hp) (D : Ends) : Out → Prop
  | .ret d => ∀ v H', Same H H' → DG S H' v d → D.rt v H'
  | .nx ρ' => ∀ σ' H', Same H H' → SL S H' σ' ρ' → D.nx σ' H'
def SD (X : Cx) (ρ : Rho) (st : Stmt) (o : Out) : Prop := ∀ (S : Addr → Prop) (σ : L2.St) (H : Hp) (D : Ends), SL S H σ ρ → o.Is S H D → WS X st D σ H
def LD (X : Cx) (ρ : Rho) (l : List Stmt) (o : Out) : Prop := ∀ (S : Addr → Prop) (σ : L2.St) (H : Hp) (D : Ends), SL S H σ ρ → o.Is S H D → WL X l D σ H
/-- the block of a comprehension -/
def BD (X : Cx) (scope : Scope) (ρ : Rho) (e : Expr) (d : PyData) : Prop := ∀ (s : Shared) (H0 : Hp) (C : Addr) (cl : List (Str × Addr)) (fp : List Addr), ED (X.blk s H0 scope (compEnvC scope cl C X.env) fp) ρ e d
section
variable {X : Cx} {ρ : Rho} {a b c e : Expr} {es rest : List Expr} {d d1 d2 : PyData} {ds : List PyData} {pos p p2 p3 pc pt : Pos} {x : Str} {k m : Bool}
theorem d_var (i : Nat) (h : ρ[i]? = some (some d) := by rfl) (hN : X.N[i]? = some x := by rfl) (hv : Vis X.env.scope x := by first | exact Or.inl rfl | exact Or.inr (Or.inl rfl) | exact Or.inr (Or.inr rfl))
    (hd : (x == ("__debug__" : Str)) = false := by decide) (hcd : (x == ("__classdict__" : Str)) = false := by decide) : ED X ρ (.Name x pos) d := fun S σ H Q sl q => by
  obtain ⟨v, e, g⟩ := sl.look i d h
  exact e_var i e (q v H (Same.refl _) g) hN hv hd hcd
theorem d_lit (h : Lit e d) : ED X ρ e d := fun S σ H Q sl q => e_lit h sl.dom q
theorem d_bl {j} (b : Bool) : ED X ρ (.Constant (.bool b) j pos) (.bool b) := d_lit (.bl b)
theorem d_int {j} (i : Int) : ED X ρ (.Constant (.int i) j pos) (.int i) := d_lit (.int i)
theorem d_str {j} (z : Str) : ED X ρ (.Constant (.str z) j pos) (.str z) := d_lit (.str z)
theorem d_non {j} : ED X ρ (.Constant .none j pos) .none := d_lit .non
theorem d_gint {i : Int} (hm : ∃ t, X.mg x = some (.int i t)) (hg : Gl X x := by rfl) (hd : (x == ("__debug__" : Str)) = false := by decide) : ED X ρ (.Name x pos) (.int i) := fun S σ H Q sl q => by
  obtain ⟨t, h⟩ := hm
  exact e_glob (v := .int i) h ⟨_, rfl⟩ (q _ H (Same.refl _) (.int i)) hg hd
theorem d_gstr {z : Str} (hm : ∃ t, X.mg x = some (.str z t)) (hg : Gl X x := by rfl) (hd : (x == ("__debug__" : Str)) = false := by decide) : ED X ρ (.Name x pos) (.str z) := fun S σ H Q sl q => by
  obtain ⟨t, h⟩ := hm
  exact e_glob (v := .str z) h ⟨_, rfl⟩ (q _ H (Same.refl _) (.str z)) hg hd
theorem ad_nil : AD X ρ [] [] := fun S σ H U sl q => a_nil (q [] H (Same.refl _) .nil)
theorem ad_cons (h : ED X ρ e d) (hs : AD X ρ es ds) (he : starEach (e :: es) X.env = (false, eval e X.env) :: starEach es X.env := by rfl) : AD X ρ (e :: es) (d :: ds) := fun S σ H U sl q =>
  a_cons (h S σ H _ sl fun v H1 s1 g1 => hs S σ H1 _ (sl.same s1) fun vs H2 s2 g2 => q (v :: vs) H2 (s1.trans s2) (.cons (g1.same s2) g2)) he
theorem d_tup {kk} (h : AD X ρ es ds) (l : ds.length ≤ 1000) : ED X ρ (.Tuple es kk pos) (.tuple ds) := fun S σ H Q sl q =>
  e_tup (h S σ H _ sl fun vs H1 s1 g1 => ⟨by rw [g1.length]; exact Nat.le_trans l (by decide), fun p hp => q _ _ (s1.trans (same_new hp)) (.tup upd_same (g1.same (same_new hp)))⟩)
theorem d_lst (h : AD X ρ es ds) (l : ds.length ≤ 1000) : ED X ρ (.List es pos) (.list ds) := fun S σ H Q sl q =>
  e_lst (h S σ H _ sl fun vs H1 s1 g1 => ⟨by rw [g1.length]; exact Nat.le_trans l (by decide), fun p hp => q _ _ (s1.trans (same_new hp)) (.lst upd_same (fun z => in_same s1 sl.dom p z hp) (g1.same (same_new hp)))⟩)
/-! and, or, not, if -/
theorem d_and {r : PyData} (h : ED X ρ a (.bool k)) (h1 : k = true → ED X ρ (.BoolOp .And (b :: rest) pos) (.bool m)) : ED X ρ (.BoolOp .And (a :: b :: rest) pos) (.bool (k && m)) := fun S σ H Q sl q =>
  e_and (h S σ H _ sl fun v H1 s1 g1 => by
    cases g1
    refine ⟨k, rfl, fun e => ?_, fun e => ?_⟩
    · rw [e, Bool.true_and] at q
      exact h1 e S σ H1 Q (sl.same s1) fun v H2 s2 g2 => q v H2 (s1.trans s2) g2
    · rw [e, Bool.false_and] at q
      exact q _ H1 s1 (.bl false))
theorem d_or (h : ED X ρ a (.bool k)) (h1 : k = false → ED X ρ (.BoolOp .Or (b :: rest) pos) (.bool m)) : ED X ρ (.BoolOp .Or (a :: b :: rest) pos) (.bool (k || m)) := fun S σ H Q sl q =>
  e_or (h S σ H _ sl fun v H1 s1 g1 => by
    cases g1
    refine ⟨k, rfl, fun e => ?_, fun e => ?_⟩
    · rw [e, Bool.true_or] at q
      exact q _ H1 s1 (.bl true)
    · rw [e, Bool.false_or] at q
      exact h1 e S σ H1 Q (sl.same s1) fun v H2 s2 g2 => q v H2 (s1.trans s2) g2)
theorem d_one {op} (h : ED X ρ a d) : ED X ρ (.BoolOp op [a] pos) d := fun S σ H Q sl q => e_one (h S σ H Q sl q)
theorem d_not (h : ED X ρ a (.bool k)) : ED X ρ (.UnaryOp .Not a pos) (.bool (!k)) := fun S σ H Q sl q => e_not (h S σ H _ sl fun v H1 s1 g1 => by cases g1; exact ⟨k, rfl, q _ H1 s1 (.bl _)⟩)
theorem d_if (h : TD X ρ c k) (h1 : k = true → ED X ρ a d) (h2 : k = false → ED X ρ b d) : ED X ρ (.IfExp c a b pos) d := fun S σ H Q sl q =>
  e_if (h S σ H _ sl fun H1 s1 => ⟨fun e => h1 e S σ H1 Q (sl.same s1) fun v H2 s2 g2 => q v H2 (s1.trans s2) g2, fun e => h2 e S σ H1 Q (sl.same s1) fun v H2 s2 g2 => q v H2 (s1.trans s2) g2⟩)
theorem td_val (h : ED X ρ a (.bool k)) (he : ∀ whole, isTrue a X.env whole = (do let v ← whole; standAt a.pos; holding [v] (truthy v)) := by intro _; rfl) : TD X ρ a k := fun S σ H R sl q =>
  t_val (h S σ H _ sl fun v H1 s1 g1 => by cases g1; exact ⟨k, rfl, q H1 s1⟩) he
theorem td_not (h : TD X ρ a k) : TD X ρ (.UnaryOp .Not a pos) (!k) := fun S σ H R sl q => t_not (h S σ H _ sl fun H1 s1 => q H1 s1)
theorem td_w (h : WD X ρ a k) : TD X ρ a k := fun S σ H R sl q => t_w (h S σ H R sl q)
theorem wd_and (h : TD X ρ a k) (h1 : k = true → WD X ρ (.BoolOp .And (b :: rest) pos) m) : WD X ρ (.BoolOp .And (a :: b :: rest) pos) (k && m) := fun S σ H R sl q =>
  w_and (h S σ H _ sl fun H1 s1 => ⟨fun e => h1 e S σ H1 R (sl.same s1) fun H2 s2 => by rw [e, Bool.true_and] at q; exact q H2 (s1.trans s2), fun e => by rw [e, Bool.false_and] at q; exact q H1 s1⟩)
theorem wd_or (h : TD X ρ a k) (h1 : k = false → WD X ρ (.BoolOp .Or (b :: rest) pos) m) : WD X ρ (.BoolOp .Or (a :: b :: rest) pos) (k || m) := fun S σ H R sl q =>
  w_or (h S σ H _ sl fun H1 s1 => ⟨fun e => by rw [e, Bool.true_or] at q; exact q H1 s1, fun e => h1 e S σ H1 R (sl.same s1) fun H2 s2 => by rw [e, Bool.false_or] at q; exact q H2 (s1.trans s2)⟩)
theorem wd_and1 (h : TD X ρ a k) : WD X ρ (.BoolOp .And [a] pos) k := fun S σ H R sl q => w_and1 (h S σ H R sl q)
theorem wd_or1 (h : TD X ρ a k) : WD X ρ (.BoolOp .Or [a] pos) k := fun S σ H R sl q => w_or1 (h S σ H R sl q)
/-! comparisons -/
def rP (P : PyData → PyData → Bool → Prop) : R2 := fun x y H Q => ∃ S d e b, DG S H x d ∧ DG S H y e ∧ P d e b ∧ Q (.bl b) H
variable {op : CmpOp} {P P' : PyData → PyData → Bool → Prop}
theorem d_cmp (ho : OpR X (compareOp op) (rP P)) (ha : ED X ρ a d1) (hb : ED X ρ b d2) (hp : P d1 d2 k) (hm : behindInMarks op b = false := by first | exact nomark _ | with_unfolding_all rfl) : ED X ρ (.Compare a [op] [b] pos) (.bool k) := fun S σ H Q sl q =>
  e_cmp ho (ha S σ H _ sl fun v H1 s1 g1 => hb S σ H1 _ (sl.same s1) fun u H2 s2 g2 => ⟨S, d1, d2, k, g1.same s2, g2, hp, q _ H2 (s1.trans s2) (.bl k)⟩) hm
theorem td_cmp (ho : OpR X (compareOp op) (rP P)) (ha : ED X ρ a d1) (hb : ED X ρ b d2) (hp : P d1 d2 k) (hm : behindInMarks op b = false := by first | exact nomark _ | with_unfolding_all rfl) : TD X ρ (.Compare a [op] [b] pos) k := fun S σ H R sl q =>
  t_cmp ho (ha S σ H _ sl fun v H1 s1 g1 => hb S σ H1 _ (sl.same s1) fun u H2 s2 g2 => ⟨S, d1, d2, k, g1.same s2, g2, hp, k, rfl, q H2 (s1.trans s2)⟩) hm
def pEqS : PyData → PyData → Bool → Prop := fun d e b => ∃ z, e = .str z ∧ b = eqS d z
def pNeS : PyData → PyData → Bool → Prop := fun d e b => ∃ z, e = .str z ∧ b = !eqS d z
def pInt (f : Int → Int → Bool) : PyData → PyData → Bool → Prop := fun d e b => ∃ i j, d = .int i ∧ e = .int j ∧ b = f i j
def pEqD : PyData → PyData → Bool → Prop := fun d e b => SeqAt.shaped d = true ∧ SeqAt.shaped e = true ∧ b = PyData.eqv d e
def pNeD : PyData → PyData → Bool → Prop := fun d e b => SeqAt.shaped d = true ∧ SeqAt.shaped e = true ∧ b = !PyData.eqv d e
theorem o_eqS (hu : X.A.units + 64 < cLine) : OpR X (compareOp .Eq) (rP pEqS) := fun pins s σ H x y v u Q I rx ry ⟨S, d, e, b, g1, g2, ⟨z, e1, e2⟩, q⟩ => by
  subst e1 e2
  cases g2
  exact op_eqS hu pins s σ H _ _ v u Q I rx ry ⟨S, d, z, g1, rfl, q⟩
theorem o_neS (hu : X.A.units + 64 < cLine) : OpR X (compareOp .NotEq) (rP pNeS) := fun pins s σ H x y v u Q I rx ry ⟨S, d, e, b, g1, g2, ⟨z, e1, e2⟩, q⟩ => by
  subst e1 e2
  cases g2
  exact op_neS hu pins s σ H _ _ v u Q I rx ry ⟨S, d, z, g1, rfl, q⟩
theorem dec_i {i j : Int} : decide (V.int i = V.int j) = decide (i = j) := by
  apply Bool.eq_iff_iff.mpr
  rw [decide_eq_true_eq, decide_eq_true_eq]
  exact ⟨fun e => by injection e, fun e => by rw [e]⟩
theorem o_eqI : OpR X (compareOp .Eq) (rP (pInt fun i j => decide (i = j))) := fun pins s σ H x y v u Q I rx ry ⟨S, d, e, b, g1, g2, ⟨i, j, e1, e2, e3⟩, q⟩ => by
  subst e1 e2 e3
  cases g1; cases g2
  exact op_eq pins s σ H _ _ v u Q I rx ry ⟨rfl, by rw [dec_i]; exact q⟩
theorem o_neI : OpR X (compareOp .NotEq) (rP (pInt fun i j => !decide (i = j))) := fun pins s σ H x y v u Q I rx ry ⟨S, d, e, b, g1, g2, ⟨i, j, e1, e2, e3⟩, q⟩ => by
  subst e1 e2 e3
  cases g1; cases g2
  exact op_ne pins s σ H _ _ v u Q I rx ry ⟨rfl, by rw [dec_i]; exact q⟩
theorem o_lt : OpR X (compareOp .Lt) (rP (pInt fun i j => decide (i < j))) := fun pins s σ H x y v u Q I rx ry ⟨S, d, e, b, g1, g2, ⟨i, j, e1, e2, e3⟩, q⟩ => by
  subst e1 e2 e3
  cases g1; cases g2
  exact op_lt pins s σ H _ _ v u Q I rx ry ⟨i, j, rfl, rfl, q⟩
theorem o_le : OpR X (compareOp .LtE) (rP (pInt fun i j => decide (i ≤ j))) := fun pins s σ H x y v u Q I rx ry ⟨S, d, e, b, g1, g2, ⟨i, j, e1, e2, e3⟩, q⟩ => by
  subst e1 e2 e3
  cases g1; cases g2
  exact op_le pins s σ H _ _ v u Q I rx ry ⟨i, j, rfl, rfl, q⟩
theorem o_gt : OpR X (compareOp .Gt) (rP (pInt fun i j => decide (j < i))) := fun pins s σ H x y v u Q I rx ry ⟨S, d, e, b, g1, g2, ⟨i, j, e1, e2, e3⟩, q⟩ => by
  subst e1 e2 e3
  cases g1; cases g2
  exact op_gt pins s σ H _ _ v u Q I rx ry ⟨i, j, rfl, rfl, q⟩
theorem o_ge : OpR X (compareOp .GtE) (rP (pInt fun i j => decide (j ≤ i))) := fun pins s σ H x y v u Q I rx ry ⟨S, d, e, b, g1, g2, ⟨i, j, e1, e2, e3⟩, q⟩ => by
  subst e1 e2 e3
  cases g1; cases g2
  exact op_ge pins s σ H _ _ v u Q I rx ry ⟨i, j, rfl, rfl, q⟩
mutual
theorem DG.lay {K : PySem.W.Frag} {S : Addr → Prop} {H : Hp} : ∀ {v : V} {d : PyData}, DG S H v d → d.canLay0 = true → Dp K H v d
  | _, _, .non, _ => .non
  | _, _, .bl b, _ => .bl b
  | _, _, .int i, _ => .int i
  | _, _, .str x, _ => .str x
  | _, _, .tup h hs, n => .tup (.inl (.inl h)) (DGs.lay hs n)
  | _, _, .lst h _ hs, n => .lst (.inl (.inl h)) (DGs.lay hs n)
  | _, _, .dct h _ hs, n => by cases n
theorem DGs.lay {K : PySem.W.Frag} {S : Addr → Prop} {H : Hp} : ∀ {vs : List V} {ds : List PyData}, DGs S H vs ds → PyData.canLayAll0 ds = true → DpAll K H vs ds
  | _, _, .nil, _ => .nil
  | _, _, .cons h hs, n => by
    have n' : (_ && _) = true := n
    rw [Bool.and_eq_true] at n'
    exact .cons (DG.lay h n'.1) (DGs.lay hs n'.2)
end
theorem o_eqD (hu : X.A.units + 64 < cLine) : OpR X (compareOp .Eq) (rP pEqD) := fun pins s σ H x y v u Q I rx ry ⟨S, d, e, b, g1, g2, ⟨e1, e2, e3⟩, q⟩ => by
  subst e3
  exact op_eqD hu pins s σ H _ _ v u Q I rx ry ⟨d, e, g1.lay (SeqAt.canLay_of_shaped e1), g2.lay (SeqAt.canLay_of_shaped e2), e1, e2, q⟩
theorem o_neD (hu : X.A.units + 64 < cLine) : OpR X (compareOp .NotEq) (rP pNeD) := fun pins s σ H x y v u Q I rx ry ⟨S, d, e, b, g1, g2, ⟨e1, e2, e3⟩, q⟩ => by
  subst e3
  exact op_neD hu pins s σ H _ _ v u Q I rx ry ⟨d, e, g1.lay (SeqAt.canLay_of_shaped e1), g2.lay (SeqAt.canLay_of_shaped e2), e1, e2, q⟩
/-- a <= b <= c, ints -/
theorem td_btw {i j l : Int} (ha : ED X ρ a (.int i)) (hb : ED X ρ b (.int j)) (hc : i ≤ j → ED X ρ c (.int l)) (hm : lastMarks [.LtE, .LtE] [b, c] = false := by with_unfolding_all rfl) : TD X ρ (.Compare a [.LtE, .LtE] [b, c] pos) (decide (i ≤ j) && decide (j ≤ l)) := fun S σ H R sl q =>
  t_btw (ha S σ H _ sl fun v H1 s1 g1 => hb S σ H1 _ (sl.same s1) fun u H2 s2 g2 => by
    cases g1; cases g2
    refine ⟨i, j, rfl, rfl, fun h => hc h S σ H2 _ (sl.same (s1.trans s2)) fun w H3 s3 g3 => ?_, fun h => ?_⟩
    · cases g3
      rw [decide_eq_true h, Bool.true_and] at q
      exact ⟨l, rfl, q H3 (s1.trans (s2.trans s3))⟩
    · rw [decide_eq_false h, Bool.false_and] at q
      exact q H2 (s1.trans s2)) hm
def isNone : PyData → Bool | .none => true | _ => false
theorem d_isN {j} (h : ED X ρ a d) : ED X ρ (.Compare a [.Is] [.Constant .none j p] pos) (.bool (isNone d)) := fun S σ H Q sl q =>
  e_cmp op_isN (h S σ H _ sl fun v H1 s1 g1 => e_non ⟨rfl, by
    have e : decide (v = V.non) = isNone d := by cases g1 <;> rfl
    rw [e]
    exact q _ H1 s1 (.bl _)⟩) (by first | exact nomark _ | rfl)
theorem td_isN {j} (h : ED X ρ a d) : TD X ρ (.Compare a [.Is] [.Constant .none j p] pos) (isNone d) := fun S σ H R sl q =>
  t_cmp op_isN (h S σ H _ sl fun v H1 s1 g1 => e_non ⟨rfl, by
    have e : decide (v = V.non) = isNone d := by cases g1 <;> rfl
    rw [e]
    exact ⟨_, rfl, q H1 s1⟩⟩) (by first | exact nomark _ | rfl)
/-! built-ins -/
theorem d_isTup (hi : X.mg "isinstance" = none) (hT : X.mg "tuple" = none) (h : ED X ρ e d) (hg : Gl X "isinstance" := by rfl) (hgT : Gl X "tuple" := by rfl)
    (he : starEach [e, .Name "tuple" p2] X.env = (false, eval e X.env) :: starEach [.Name "tuple" p2] X.env := by rfl) : ED X ρ (.Call (.Name "isinstance" p) [e, .Name "tuple" p2] [] pos) (.bool (isTup d)) := fun S σ H Q sl q =>
  e_isi hi hT PyProof.Rows.boot_tuple (h S σ H _ sl fun v H1 s1 g1 => ⟨tyD d, isTup d, g1.ty, kit_tup d, q _ H1 s1 (.bl _)⟩) hg hgT (by decide) (by decide) he rfl rfl
theorem d_isStr (hi : X.mg "isinstance" = none) (hT : X.mg "str" = none) (h : ED X ρ e d) (hg : Gl X "isinstance" := by rfl) (hgT : Gl X "str" := by rfl)
    (he : starEach [e, .Name "str" p2] X.env = (false, eval e X.env) :: starEach [.Name "str" p2] X.env := by rfl) : ED X ρ (.Call (.Name "isinstance" p) [e, .Name "str" p2] [] pos) (.bool (isStr d)) := fun S σ H Q sl q =>
  e_isi hi hT PyProof.Rows.boot_str (h S σ H _ sl fun v H1 s1 g1 => ⟨tyD d, isStr d, g1.ty, kit_str d, q _ H1 s1 (.bl _)⟩) hg hgT (by decide) (by decide) he rfl rfl
theorem d_isBool (hi : X.mg "isinstance" = none) (hT : X.mg "bool" = none) (h : ED X ρ e d) (hg : Gl X "isinstance" := by rfl) (hgT : Gl X "bool" := by rfl)
    (he : starEach [e, .Name "bool" p2] X.env = (false, eval e X.env) :: starEach [.Name "bool" p2] X.env := by rfl) : ED X ρ (.Call (.Name "isinstance" p) [e, .Name "bool" p2] [] pos) (.bool (isBoo d)) := fun S σ H Q sl q =>
  e_isi hi hT (by decide +kernel) (h S σ H _ sl fun v H1 s1 g1 => ⟨tyD d, isBoo d, g1.ty, kit_boo d, q _ H1 s1 (.bl _)⟩) hg hgT (by decide) (by decide) he rfl rfl
theorem DG.seq {K : PySem.W.Frag} {S : Addr → Prop} {H : Hp} {v : V} {ds : List PyData} (h : DG S H v (.tuple ds)) : ∃ a xs, v = .ref a ∧ H a = some (.tup xs) ∧ DGs S H xs ds ∧ SqT K H a xs := by
  cases h with | tup h hs => exact ⟨_, _, rfl, h, hs, .inl (.inl h)⟩
theorem DG.seqL {K : PySem.W.Frag} {S : Addr → Prop} {H : Hp} {v : V} {ds : List PyData} (h : DG S H v (.list ds)) : ∃ a xs, v = .ref a ∧ H a = some (.lst xs) ∧ DGs S H xs ds ∧ SqL K H a xs := by
  cases h with | lst h _ hs => exact ⟨_, _, rfl, h, hs, .inl (.inl h)⟩
theorem d_len (hm : X.mg "len" = none) (h : ED X ρ e (.tuple ds)) (hg : Gl X "len" := by rfl)
    (he : starEach [e] X.env = (false, eval e X.env) :: starEach [] X.env := by rfl) : ED X ρ (.Call (.Name "len" p) [e] [] pos) (.int ds.length) := fun S σ H Q sl q =>
  e_len hm (h S σ H _ sl fun v H1 s1 g1 => by
    obtain ⟨a, xs, rfl, _, hs, sq⟩ := g1.seq (K := X.K)
    exact ⟨a, xs, rfl, .inr sq, by rw [hs.length]; exact q _ H1 s1 (.int _)⟩) hg he rfl
theorem d_lenL (hm : X.mg "len" = none) (h : ED X ρ e (.list ds)) (hg : Gl X "len" := by rfl)
    (he : starEach [e] X.env = (false, eval e X.env) :: starEach [] X.env := by rfl) : ED X ρ (.Call (.Name "len" p) [e] [] pos) (.int ds.length) := fun S σ H Q sl q =>
  e_len hm (h S σ H _ sl fun v H1 s1 g1 => by
    obtain ⟨a, xs, rfl, _, hs, sq⟩ := g1.seqL (K := X.K)
    exact ⟨a, xs, rfl, .inl sq, by rw [hs.length]; exact q _ H1 s1 (.int _)⟩) hg he rfl
theorem d_lenS {z : Str} (hm : X.mg "len" = none) (hz : z.length ≤ sizeLine) (h : ED X ρ e (.str z)) (hg : Gl X "len" := by rfl)
    (he : starEach [e] X.env = (false, eval e X.env) :: starEach [] X.env := by rfl) : ED X ρ (.Call (.Name "len" p) [e] [] pos) (.int z.length) := fun S σ H Q sl q =>
  e_lenS hm (h S σ H _ sl fun v H1 s1 g1 => by cases g1; exact ⟨z, rfl, hz, q _ H1 s1 (.int _)⟩) hg he rfl
theorem d_ix {i : Nat} (ha : ED X ρ a (.tuple ds)) (hb : ED X ρ b (.int i)) (hi : ds[i]? = some d) (hs : PlainIx b := by exact fun _ _ => rfl) : ED X ρ (.Subscript a b pos) d := fun S σ H Q sl q =>
  e_ixT (ha S σ H _ sl fun v H1 s1 g1 => hb S σ H1 _ (sl.same s1) fun u H2 s2 g2 => by
    cases g2
    obtain ⟨a, xs, rfl, _, hs, sq⟩ := (g1.same s2).seq (K := X.K)
    obtain ⟨w, hw, gw⟩ : ∃ w, xs[i]? = some w ∧ DG S H2 w d := by
      have hl := hs.length
      have lt : i < xs.length := by rw [hl]; exact (List.getElem?_eq_some_iff.mp hi).1
      obtain ⟨d', e1, e2⟩ := hs.get (List.getElem?_eq_getElem lt)
      rw [hi] at e1
      cases e1
      exact ⟨_, List.getElem?_eq_getElem lt, e2⟩
    exact ⟨a, xs, i, w, rfl, rfl, sq, atI_nat hw, q _ H2 (s1.trans s2) gw⟩) hs
theorem d_ixL {i : Nat} (ha : ED X ρ a (.list ds)) (hb : ED X ρ b (.int i)) (hi : ds[i]? = some d) (hs : PlainIx b := by exact fun _ _ => rfl) : ED X ρ (.Subscript a b pos) d := fun S σ H Q sl q =>
  e_ixL (ha S σ H _ sl fun v H1 s1 g1 => hb S σ H1 _ (sl.same s1) fun u H2 s2 g2 => by
    cases g2
    obtain ⟨a, xs, rfl, _, hs, sq⟩ := (g1.same s2).seqL (K := X.K)
    obtain ⟨w, hw, gw⟩ : ∃ w, xs[i]? = some w ∧ DG S H2 w d := by
      have hl := hs.length
      have lt : i < xs.length := by rw [hl]; exact (List.getElem?_eq_some_iff.mp hi).1
      obtain ⟨d', e1, e2⟩ := hs.get (List.getElem?_eq_getElem lt)
      rw [hi] at e1
      cases e1
      exact ⟨_, List.getElem?_eq_getElem lt, e2⟩
    exact ⟨a, xs, i, w, rfl, rfl, sq, atI_nat hw, q _ H2 (s1.trans s2) gw⟩) hs
theorem d_repr (hm : X.mg "repr" = none) (hG : X.A.guards = some []) (hu : X.A.units + 64 < cLine) (h : ED X ρ e d) (hd : d.showable = true ∧ d.depth ≤ 60 ∧ d.shown.length ≤ sizeLine) (hg : Gl X "repr" := by rfl)
    (he : starEach [e] X.env = (false, eval e X.env) :: starEach [] X.env := by rfl) : ED X ρ (.Call (.Name "repr" p) [e] [] pos) (.str d.shown) := fun S σ H Q sl q =>
  e_reprA hm hG hu (h S σ H _ sl fun v H1 s1 g1 => ⟨S, d, g1, hd.1, hd.2.1, hd.2.2, q _ H1 s1 (.str _)⟩) hg he rfl
theorem d_tupL (hm : X.mg "tuple" = none) (h : ED X ρ e (.list ds)) (hg : Gl X "tuple" := by rfl)
    (he : starEach [e] X.env = (false, eval e X.env) :: starEach [] X.env := by rfl) : ED X ρ (.Call (.Name "tuple" p) [e] [] pos) (.tuple ds) := fun S σ H Q sl q =>
  e_tupL hm (h S σ H _ sl fun v H1 s1 g1 => by
    obtain ⟨a, xs, rfl, _, hs, sq⟩ := g1.seqL (K := X.K)
    exact ⟨a, xs, rfl, sq, fun t ht => q _ _ (s1.trans (same_new ht)) (.tup upd_same (hs.same (same_new ht)))⟩) hg he rfl
theorem d_listT (hm : X.mg "list" = none) (h : ED X ρ e (.tuple ds)) (hg : Gl X "list" := by rfl)
    (he : starEach [e] X.env = (false, eval e X.env) :: starEach [] X.env := by rfl) : ED X ρ (.Call (.Name "list" p) [e] [] pos) (.list ds) := fun S σ H Q sl q =>
  e_listL hm (h S σ H _ sl fun v H1 s1 g1 => by
    obtain ⟨a, xs, rfl, _, hs, sq⟩ := g1.seq (K := X.K)
    exact ⟨a, xs, rfl, .inr sq, fun t ht => q _ _ (s1.trans (same_new ht)) (.lst upd_same (fun z => in_same s1 sl.dom t z ht) (hs.same (same_new ht)))⟩) hg he rfl
theorem bools_of {S : Addr → Prop} {H : Hp} : ∀ {xs : List V} {bs : List Bool}, DGs S H xs (bs.map PyData.bool) → xs = bs.map V.bl
  | _, [], .nil => rfl
  | _, b :: bs, .cons h hs => by
    cases h
    rw [bools_of hs]; rfl
theorem strsE {S : Addr → Prop} {H : Hp} : ∀ {xs : List V} {zs : List Str}, DGs S H xs (zs.map PyData.str) → xs = zs.map V.str
  | _, [], .nil => rfl
  | _, z :: zs, .cons h hs => by
    cases h
    rw [strsE hs]; rfl
theorem d_all {bs : List Bool} (hm : X.mg "all" = none) (h : ED X ρ e (.list (bs.map PyData.bool))) (hgl : Gl X "all" := by rfl) (hc : X.calm = true := by rfl)
    (he : starEach [e] X.env = (false, eval e X.env) :: starEach [] X.env := by rfl) : ED X ρ (.Call (.Name "all" p) [e] [] pos) (.bool (bs.all id)) := fun S σ H Q sl q =>
  e_callB (cr_all hc) hm (by decide +kernel) (a_cons (h S σ H _ sl fun v H1 s1 g1 => by
    obtain ⟨a, xs, rfl, _, hs, sq⟩ := g1.seqL (K := X.K)
    rw [bools_of hs] at sq
    exact a_nil ⟨a, bs, rfl, sq, q _ H1 s1 (.bl _)⟩) he) hgl (by decide) (by decide) he rfl
theorem d_any {bs : List Bool} (hm : X.mg "any" = none) (h : ED X ρ e (.list (bs.map PyData.bool))) (hgl : Gl X "any" := by rfl) (hc : X.calm = true := by rfl)
    (he : starEach [e] X.env = (false, eval e X.env) :: starEach [] X.env := by rfl) : ED X ρ (.Call (.Name "any" p) [e] [] pos) (.bool (bs.any id)) := fun S σ H Q sl q =>
  e_callB (cr_any hc) hm (by decide +kernel) (a_cons (h S σ H _ sl fun v H1 s1 g1 => by
    obtain ⟨a, xs, rfl, _, hs, sq⟩ := g1.seqL (K := X.K)
    rw [bools_of hs] at sq
    exact a_nil ⟨a, bs, rfl, sq, q _ H1 s1 (.bl _)⟩) he) hgl (by decide) (by decide) he rfl
/-- len(set(..)) of texts -/
theorem d_lenSet {zs : List Str} (hm : X.mg "len" = none) (hm2 : X.mg "set" = none) (h : ED X ρ a (.list (zs.map PyData.str)) ∨ ED X ρ a (.tuple (zs.map PyData.str))) (hl : zs.length ≤ 1000) (hc : X.calm = true := by rfl) (hg : Gl X "len" := by rfl) (hg2 : Gl X "set" := by rfl)
    (na : starEach [a] X.env = (false, eval a X.env) :: starEach [] X.env := by rfl) : ED X ρ (.Call (.Name "len" p) [.Call (.Name "set" p2) [a] [] p3] [] pos) (.int (cnt zs zs.length)) := fun S σ H Q sl q => by
  refine e_lenSet hm hm2 ?_ hc hg hg2 na
  rcases h with h | h
  · exact h S σ H _ sl fun v H1 s1 g1 => by
      obtain ⟨a, xs, rfl, _, hs, sq⟩ := g1.seqL (K := X.K)
      rw [strsE hs] at sq
      exact ⟨a, zs, rfl, .inl sq, hl, q _ H1 s1 (.int _)⟩
  · exact h S σ H _ sl fun v H1 s1 g1 => by
      obtain ⟨a, xs, rfl, _, hs, sq⟩ := g1.seq (K := X.K)
      rw [strsE hs] at sq
      exact ⟨a, zs, rfl, .inr sq, hl, q _ H1 s1 (.int _)⟩
/-! list comprehensions over a tuple, a list -/
section
variable {elt iter : Expr} {scope : Scope}
theorem d_lcT {n : Nat} (j : Nat) (f : PyData → PyData) (hN : X.N.Nodup) (okb : BlkOk X.N X.env.scope scope [(x, j)]) (h : ED X ρ iter (.tuple ds)) (l : ds.length ≤ 1000) (hel : ∀ d ∈ ds, BD X scope (ρ.set j (some d)) elt (f d))
    (hg : ∀ (s : Shared) (H : Hp) (C : Addr) (cl : List (Str × Addr)) (fp : List Addr), PG (X.blk s H scope (compEnvC scope cl C X.env) fp) (.Name x pt) (gName j))
    (hc : X.calm = true := by rfl) (hs : ∀ z, foldedSetIterable iter X.env z = pure z := by intro _; rfl) : ED X ρ (.ListComp elt [⟨.Name x pt, iter, [], 0⟩] scope pos) (.list (ds.map f)) := fun S σ H Q sl q => by
  refine e_lcT j hN okb (h S σ H _ sl fun v H1 s1 g1 => ?_) hg hc hs
  obtain ⟨a, xs, rfl, ha, hds, sq⟩ := g1.seq (K := X.K)
  refine ⟨a, xs, rfl, sq, fun D nD => ?_⟩
  have sl1 := sl.same s1
  have slD := sl1.and1 (o := .lst []) nD
  have hdsD := hds.mono (T := And1 S D) (My.Same.tups (same_new (o := .lst []) nD)) fun a u n e => ⟨fun z => z.elim n fun z => (by rw [z, nD] at e; cases e), by rw [upd_ne (ne_of_none e nD)]; exact e⟩
  have lx := hds.length
  refine ⟨fun i H' => ∃ ys, (∀ b o, b ≠ D → (L2.upd H1 D (.lst [])) b = some o → H' b = some o) ∧ H' D = some (.lst ys) ∧ ys.length = i ∧ DGs (And1 S D) H' ys ((ds.take i).map f), ?_, ?_, ?_, ?_⟩
  · exact ⟨[], fun b o _ e => e, upd_same, rfl, .nil⟩
  · rintro i H' _ ⟨ys, k1, _⟩
    exact .inl (.inl (k1 a _ (ne_of_none ha nD) (same_new nD _ _ ha)))
  · rintro i y H' hi ⟨ys, k1, k2, k3, k4⟩ s0 H00 C cl fp
    obtain ⟨d, hd, hy⟩ := hdsD.get hi
    have keep : ∀ {v : V} {d : PyData}, DG (And1 S D) (L2.upd H1 D (.lst [])) v d → DG (And1 S D) H' v d := fun g => g.mono (fun b xs e => k1 b _ (ne_of e upd_same (fun z => by cases z)) e) fun a o n e => ⟨n, k1 a o (fun z => n (.inr z)) e⟩
    have slp : SL (And1 S D) H' σ ρ := ⟨fun b z w => by
      cases e : (L2.upd H1 D (.lst [])) b with
      | none => exact slD.dom b z e
      | some o =>
        by_cases bD : b = D
        · rw [bD, k2] at w; cases w
        · (rw [k1 b o bD e] at w; cases w), fun i d q => let ⟨v, a, b⟩ := slD.look i d q; ⟨v, a, keep b⟩, slD.len⟩
    have sl2 := SL.set (i := j) slp (keep hy)
    have ew : (L2.wipe σ [j]).set j (some y) = σ.set j (some y) := by show (σ.set j none).set j (some y) = _; rw [List.set_set]
    rw [ew]
    refine hel d (List.mem_of_getElem? hd) s0 H00 C cl fp (And1 S D) _ H' _ sl2 fun z H4 s4 g4 => ?_
    have h4 := s4 _ _ k2
    refine ⟨ys, h4, by rw [k3]; exact Nat.lt_of_lt_of_le (show i < 1001 by have := (List.getElem?_eq_some_iff.mp hd).1; omega) (by decide), ys ++ [z], fun b o n e => ?_, upd_same, by rw [List.length_append, k3]; rfl, ?_⟩
    · rw [upd_ne n]; exact s4 _ _ (k1 b o n e)
    · have lt : i < ds.length := (List.getElem?_eq_some_iff.mp hd).1
      have e : ds[i] = d := by rw [List.getElem?_eq_getElem lt] at hd; exact Option.some.inj hd
      rw [List.take_succ_eq_append_getElem lt, List.map_append, e]
      exact ((k4.same s4).append (.cons g4 .nil)).put h4
  · rintro H' ⟨ys, k1, k2, k3, k4⟩
    rw [lx, List.take_length] at k4
    refine q _ H' (s1.trans fun b o e => k1 b o (ne_of_none e nD) (same_new nD b o e)) (.lst k2 (fun z => sl1.dom D z nD) k4.un1)
end
/-! calls of defs by their promise on data -/
def spD (F : List PyData → Option PyData) : Sp := fun vs H Q _ => ∃ S ds d, DGs S H vs ds ∧ (∀ a, S a → H a ≠ none) ∧ F ds = some d ∧ ∀ v H', Same H H' → DG S H' v d → Q v H'
theorem d_call {kk j : Nat} {F : List PyData → Option PyData} (cF : CalN X.prog X.w X.K X.mg X.base kk x (spD F)) (hr : Room j X.A) (hk : kk ≤ j) (h : AD X ρ (e :: es) ds) (hF : F ds = some d) (hg : Gl X x := by rfl)
    (hdb : (x == ("__debug__" : Str)) = false := by decide) (he : starEach (e :: es) X.env = (false, eval e X.env) :: starEach es X.env := by rfl) (hpl : (backTo pos (starEach es X.env)).any (·.1) = false := by rfl) : ED X ρ (.Call (.Name x p) (e :: es) [] pos) d := fun S σ H Q sl q =>
  e_c cF hr hk (h S σ H _ sl fun vs H1 s1 g1 => by
    rw [List.append_nil]
    exact ⟨S, ds, d, g1, in_same s1 sl.dom, hF, fun v H2 s2 g2 => q v H2 (s1.trans s2) g2⟩) hg hdb he hpl
/-! statements -/
variable {st : Stmt} {l l1 l2 : List Stmt} {o : Out} {ρ1 : Rho}
theorem ld_nil : LD X ρ [] (.nx ρ) := fun S σ H D sl q => l_nil (q σ H (Same.refl _) sl)
theorem ld_cons (h : SD X ρ st (.nx ρ1)) (hs : LD X ρ1 l o) : LD X ρ (st :: l) o := fun S σ H D sl q =>
  l_cons (h S σ H _ sl fun σ1 H1 s1 sl1 => hs S σ1 H1 D sl1 (by
    cases o with
    | ret d => exact fun v H2 s2 g2 => q v H2 (s1.trans s2) g2
    | nx ρ2 => exact fun σ2 H2 s2 g2 => q σ2 H2 (s1.trans s2) g2))
theorem ld_end (h : SD X ρ st (.ret d)) : LD X ρ (st :: l) (.ret d) := fun S σ H D sl q => l_cons (h S σ H _ sl fun v H1 s1 g1 => q v H1 s1 g1)
theorem sd_ret (h : ED X ρ e d) : SD X ρ (.Return (some e) pos) (.ret d) := fun S σ H D sl q => s_ret (h S σ H _ sl q)
theorem sd_if (h : TD X ρ c k) (h1 : k = true → LD X ρ l1 o) (h2 : k = false → LD X ρ l2 o) : SD X ρ (.If c l1 l2 pos) o := fun S σ H D sl q =>
  s_if (h S σ H _ sl fun H1 s1 => by
    have q1 : o.Is S H1 D := by
      cases o with
      | ret d => exact fun v H2 s2 g2 => q v H2 (s1.trans s2) g2
      | nx ρ2 => exact fun σ2 H2 s2 g2 => q σ2 H2 (s1.trans s2) g2
    exact ⟨fun e => h1 e S σ H1 D (sl.same s1) q1, fun e => h2 e S σ H1 D (sl.same s1) q1⟩)
/-- if c: return d1 -/
theorem ld_ifret (h : TD X ρ c k) (h1 : k = true → LD X ρ l1 (.ret d)) (h2 : k = false → LD X ρ l (.ret d)) : LD X ρ (.If c l1 [] pos :: l) (.ret d) := by
  cases k with
  | true => exact ld_end (sd_if h h1 (fun e => by cases e))
  | false => exact ld_cons (sd_if h (fun e => by cases e) fun _ => ld_nil) (h2 rfl)
theorem sd_set (i : Nat) (h : ED X ρ e d) (hN : X.N.Nodup) (hi : X.N[i]? = some x := by rfl) (hx : Loc X.env.scope x := by first | exact Or.inl rfl | exact Or.inr rfl)
    (hs : swapsWith e (some (.Name x p)) pos.line X.env = pure false := by rfl) (hf : X.fn x = true ∨ X.env.scope.names.lookup x = some .local := by first | exact .inl rfl | exact .inr rfl | assumption) : SD X ρ (.Assign [.Name x p] e pos) (.nx (ρ.set i (some d))) := fun S σ H D sl q =>
  s_set i (h S σ H _ sl fun v H1 s1 g1 => q _ H1 s1 ((sl.same s1).set g1)) hN hi hx hs hf
end
end My

namespace My
open PySem PySem.Spec PyProof.Rows L2
/-! ### defs by their promise on data -/
def startD (N : List Str) (ds : List PyData) : Rho := ds.map some ++ List.replicate (N.length - ds.length) none
theorem sl_start {S : Addr → Prop} {H : Hp} {N : List Str} {vs : List V} {ds : List PyData} (h : DGs S H vs ds) (hS : ∀ a, S a → H a ≠ none) : SL S H (L2.start N vs) (startD N ds) := by
  have hl := h.length
  refine ⟨hS, fun i d q => ?_, ?_⟩
  · unfold startD at q
    by_cases lt : i < ds.length
    · rw [List.getElem?_append_left (by rw [List.length_map]; exact lt), List.getElem?_map] at q
      have lv : i < vs.length := by omega
      obtain ⟨d', e1, e2⟩ := h.get (List.getElem?_eq_getElem lv)
      rw [e1] at q
      cases q
      refine ⟨vs[i], ?_, e2⟩
      unfold L2.start
      rw [List.getElem?_append_left (by rw [List.length_map]; exact lv), List.getElem?_map, List.getElem?_eq_getElem lv]
      rfl
    · rw [List.getElem?_append_right (by rw [List.length_map]; omega), List.getElem?_replicate] at q
      split at q <;> cases q
  · unfold L2.start startD
    rw [List.length_append, List.length_append, List.length_map, List.length_map, List.length_replicate, List.length_replicate, hl]
theorem Fun.okD {P : Program} {w : World} {K : PySem.W.Frag} {mg : Str → Option Value} {base : Heap} {x qual : Str} {st : Stmt} {f : Addr} {fd : FuncData} {N ps : List Str} {k : Nat} {Fn : List PyData → Option PyData} (F : Fun K x qual st f fd) (S : FnScope N ps (defScope st))
    (len : ∀ ds d, Fn ds = some d → ds.length = ps.length)
    (body : ∀ (cdv : Value) (B : Around) (out : List Env) (s : Shared) (H : Hp) (E : XK) (ds : List PyData) (d : PyData), Room k (B.deeper (envOfC qual (defScope st) s.heap.objs.size f cdv)) → Fn ds = some d →
      LD (cxOf CX0 P w K mg base N qual (defScope st) f cdv B out s H E).nox (startD N ds) (defBody st) (.ret d)) : FnOk P w K mg base CX0 (k + 1) f fd ps (spD Fn) :=
  Fun.okW F S (fun vs H Q E ⟨S0, ds, d, g, _, e, _⟩ => by rw [g.length]; exact len ds d e) fun cdv B out s H vs Q E hr ⟨S0, ds, d, g, hS, e, q⟩ =>
    body cdv B out s H E ds d hr e S0 _ H _ (sl_start g hS) q
theorem Fun.okDG {P : Program} {w : World} {K : PySem.W.Frag} {mg : Str → Option Value} {base : Heap} {x qual : Str} {st : Stmt} {f : Addr} {fd : FuncData} {N ps : List Str} {k : Nat} {Fn : List PyData → Option PyData} (F : Fun K x qual st f fd) (S : FnScope N ps (defScope st))
    (len : ∀ ds d, Fn ds = some d → ds.length = ps.length)
    (body : ∀ (cdv : Value) (B : Around) (out : List Env) (s : Shared) (H : Hp) (E : XK) (ds : List PyData) (d : PyData), Room k (B.deeper (envOfC qual (defScope st) s.heap.objs.size f cdv)) →
      (B.deeper (envOfC qual (defScope st) s.heap.objs.size f cdv)).guards = some [] → Fn ds = some d →
      LD (cxOf CX0 P w K mg base N qual (defScope st) f cdv B out s H E).nox (startD N ds) (defBody st) (.ret d)) : FnG P w K mg base (k + 1) f fd ps (spD Fn) :=
  Fun.okG F S (fun vs H Q E ⟨S0, ds, d, g, _, e, _⟩ => by rw [g.length]; exact len ds d e) fun cdv B out s H vs Q E hr hG ⟨S0, ds, d, g, hS, e, q⟩ =>
    body cdv B out s H E ds d hr hG e S0 _ H _ (sl_start g hS) q
/-! ### order of texts -/
def srt (zs : List Str) : List Str := zs.mergeSort fun a b => !decide (lt b a)
theorem srt_perm (zs : List Str) : (srt zs).Perm zs := List.mergeSort_perm ..
theorem srt_pw (zs : List Str) : (srt zs).Pairwise fun a b => ¬ lt b a := by
  have h := List.pairwise_mergeSort (le := fun a b : Str => !decide (lt b a)) (fun a b c h1 h2 => by
    have h1' : ¬ lt b a := by simpa using h1
    have h2' : ¬ lt c b := by simpa using h2
    simpa using le_trans h1' h2') (fun a b => by
    by_cases q : lt b a
    · have : ¬ lt a b := fun z => lt_irr a (lt_trans z q)
      simp [this]
    · simp [q]) zs
  exact h.imp fun {a b} h => by simpa using h
theorem srt_uniq {zs ys : List Str} (hp : ys.Perm zs) (hs : sortedS ys = true) : ys = srt zs :=
  List.Perm.eq_of_pairwise (fun a b _ _ h1 h2 => lt_tri h2 h1) (sortedS_pw hs) (srt_pw zs) (hp.trans (srt_perm zs).symm)
def dd : List Str → List Str
  | [] => []
  | x :: xs => if x ∈ xs then dd xs else x :: dd xs
theorem mem_dd (k : Str) : ∀ xs : List Str, k ∈ dd xs ↔ k ∈ xs
  | [] => Iff.rfl
  | x :: xs => by
    have ih := mem_dd k xs
    unfold dd
    split
    · rw [ih, List.mem_cons]
      exact ⟨.inr, fun h => h.elim (fun e => by rw [e]; assumption) id⟩
    · rw [List.mem_cons, List.mem_cons, ih]
theorem nodup_dd : ∀ xs : List Str, (dd xs).Nodup
  | [] => List.nodup_nil
  | x :: xs => by
    unfold dd
    split
    · exact nodup_dd xs
    · exact List.nodup_cons.mpr ⟨fun h => by rw [mem_dd] at h; contradiction, nodup_dd xs⟩
theorem dd_self : ∀ {xs : List Str}, xs.Nodup → dd xs = xs
  | [], _ => rfl
  | x :: xs, h => by
    have h' := List.nodup_cons.mp h
    unfold dd
    rw [if_neg h'.1, dd_self h'.2]
theorem srtSet_uniq {zs ys : List Str} (hs : sortedS ys = true) (hn : ys.Nodup) (hm : ∀ k, k ∈ ys ↔ k ∈ zs) : ys = srt (dd zs) :=
  srt_uniq ((List.perm_ext_iff_of_nodup hn (nodup_dd zs)).mpr fun k => by rw [hm k, mem_dd]) hs
theorem dd_len (zs : List Str) : (dd zs).length = zs.length ↔ zs.Nodup := by
  induction zs with
  | nil => exact ⟨fun _ => List.nodup_nil, fun _ => rfl⟩
  | cons x xs ih =>
    have le : ∀ l : List Str, (dd l).length ≤ l.length := fun l => by
      induction l with
      | nil => exact Nat.le_refl _
      | cons y l ih => unfold dd; split
                       · rw [List.length_cons]; omega
                       · rw [List.length_cons, List.length_cons]; omega
    unfold dd
    split
    · rename_i h
      have := le xs
      rw [List.length_cons, List.nodup_cons]
      exact ⟨fun e => by omega, fun e => absurd h e.1⟩
    · rename_i h
      rw [List.length_cons, List.length_cons, List.nodup_cons, ← ih]
      exact ⟨fun e => ⟨h, by omega⟩, fun e => by omega⟩
theorem srt_asc (zs : List Str) : decide (zs = srt (dd zs)) = ascS zs := by
  apply Bool.eq_iff_iff.mpr
  rw [decide_eq_true_eq, asc_iff]
  constructor
  · intro e
    have pw := srt_pw (dd zs)
    have nd : (srt (dd zs)).Nodup := (srt_perm _).nodup_iff.mpr (nodup_dd zs)
    rw [← e] at pw nd
    refine (pw.and nd).imp fun {a b} ⟨h1, h2⟩ => ?_
    by_cases q : lt a b
    · exact q
    · exact absurd (lt_tri q h1) h2
  · intro h
    have nd : zs.Nodup := h.imp (S := fun a b => a ≠ b) fun {a b} h1 h2 => lt_irr a (by rw [← h2] at h1; exact h1)
    rw [dd_self nd]
    exact List.Perm.eq_of_pairwise (fun a b _ _ h1 h2 => lt_tri h2 h1) (h.imp fun {a b} h1 h2 => lt_irr a (lt_trans h1 h2)) (srt_pw zs) (srt_perm zs).symm
section
variable {X : Cx} {ρ : Rho} {a b c e : Expr} {es rest : List Expr} {d d1 d2 : PyData} {ds ds2 : List PyData} {pos p p2 p3 pc pt : Pos} {x : Str} {k m : Bool}
theorem d_callG {kk j : Nat} {F : List PyData → Option PyData} (cF : CalG X.prog X.w X.K X.mg X.base kk x (spD F)) (hr : Room j X.A) (hG : X.A.guards = some []) (hk : kk ≤ j) (h : AD X ρ (e :: es) ds) (hF : F ds = some d) (hg : Gl X x := by rfl)
    (hdb : (x == ("__debug__" : Str)) = false := by decide) (he : starEach (e :: es) X.env = (false, eval e X.env) :: starEach es X.env := by rfl) (hpl : (backTo pos (starEach es X.env)).any (·.1) = false := by rfl) : ED X ρ (.Call (.Name x p) (e :: es) [] pos) d := fun S σ H Q sl q =>
  e_cG cF hr hG hk (h S σ H _ sl fun vs H1 s1 g1 => by
    exact ⟨S, ds, d, g1, in_same s1 sl.dom, hF, fun v H2 s2 g2 => q v H2 (s1.trans s2) g2⟩) hg hdb he hpl
theorem ED.cast {d' : PyData} (h : ED X ρ e d) (q : d = d') : ED X ρ e d' := q ▸ h
theorem TD.cast {k' : Bool} (h : TD X ρ e k) (q : k = k') : TD X ρ e k' := q ▸ h
/-- sorted of texts; sorted(set(..)) -/
theorem d_sortedL {zs : List Str} (hm : X.mg "sorted" = none) (h : ED X ρ e (.list (zs.map PyData.str))) (l : zs.length < 64) (hg : Gl X "sorted" := by rfl)
    (he : starEach [e] X.env = (false, eval e X.env) :: starEach [] X.env := by rfl) : ED X ρ (.Call (.Name "sorted" p) [e] [] pos) (.list ((srt zs).map PyData.str)) := fun S σ H Q sl q =>
  e_sorted hm (h S σ H _ sl fun v H1 s1 g1 => by
    obtain ⟨a, xs, rfl, _, hs, sq⟩ := g1.seqL (K := X.K)
    rw [strsE hs] at sq
    refine ⟨a, zs, rfl, sq, l, fun ys t hp hso ht => ?_⟩
    rw [srt_uniq hp hso]
    exact q _ _ (s1.trans (same_new ht)) (.lst upd_same (fun z => in_same s1 sl.dom t z ht) (DGs.strs _))) hg he rfl
theorem d_sortedT {zs : List Str} (hm : X.mg "sorted" = none) (h : ED X ρ e (.tuple (zs.map PyData.str))) (l : zs.length < 64) (hg : Gl X "sorted" := by rfl)
    (he : starEach [e] X.env = (false, eval e X.env) :: starEach [] X.env := by rfl) : ED X ρ (.Call (.Name "sorted" p) [e] [] pos) (.list ((srt zs).map PyData.str)) := fun S σ H Q sl q =>
  e_callB cr_sortedTS hm PyProof.Rows.boot_sorted (a_cons (h S σ H _ sl fun v H1 s1 g1 => by
    obtain ⟨a, xs, rfl, _, hs, sq⟩ := g1.seq (K := X.K)
    rw [strsE hs] at sq
    refine a_nil ⟨a, zs, rfl, sq, l, fun ys t hp hso ht => ?_⟩
    rw [srt_uniq hp hso]
    exact q _ _ (s1.trans (same_new ht)) (.lst upd_same (fun z => in_same s1 sl.dom t z ht) (DGs.strs _))) he) hg (by decide) (by decide) he rfl
theorem d_sortedSet {zs : List Str} (hm : X.mg "sorted" = none) (hm2 : X.mg "set" = none) (h : ED X ρ a (.list (zs.map PyData.str)) ∨ ED X ρ a (.tuple (zs.map PyData.str))) (l : zs.length < 64) (hc : X.calm = true := by rfl) (hg : Gl X "sorted" := by rfl) (hg2 : Gl X "set" := by rfl)
    (na : starEach [a] X.env = (false, eval a X.env) :: starEach [] X.env := by rfl) : ED X ρ (.Call (.Name "sorted" p) [.Call (.Name "set" p2) [a] [] p3] [] pos) (.list ((srt (dd zs)).map PyData.str)) := fun S σ H Q sl q => by
  refine e_sortedSet hm hm2 ?_ hc hg hg2 na
  have fin : ∀ {H1 : Hp}, Same H H1 → ∀ (ys : List Str) (t : Addr), sortedS ys = true → ys.Nodup → (∀ k, k ∈ ys ↔ k ∈ zs) → ys.length = cnt zs zs.length → H1 t = none → Q (.ref t) (upd H1 t (.lst (ys.map V.str))) := fun {H1} s1 ys t hso hnd hmem _ ht => by
    rw [srtSet_uniq hso hnd hmem]
    exact q _ _ (s1.trans (same_new ht)) (.lst upd_same (fun z => in_same s1 sl.dom t z ht) (DGs.strs _))
  rcases h with h | h
  · exact h S σ H _ sl fun v H1 s1 g1 => by
      obtain ⟨a, xs, rfl, _, hs, sq⟩ := g1.seqL (K := X.K)
      rw [strsE hs] at sq
      exact ⟨a, zs, rfl, .inl sq, l, fin s1⟩
  · exact h S σ H _ sl fun v H1 s1 g1 => by
      obtain ⟨a, xs, rfl, _, hs, sq⟩ := g1.seq (K := X.K)
      rw [strsE hs] at sq
      exact ⟨a, zs, rfl, .inr sq, l, fin s1⟩
/-! ### over a text, over range -/
section
variable {elt iter : Expr} {scope : Scope}
theorem lc_step {S : Addr → Prop} {σ : L2.St} {H1 H' : Hp} {D : Addr} {ys : List V} (nD : H1 D = none) (sl1 : SL S H1 σ ρ) (k1 : ∀ b o, b ≠ D → (L2.upd H1 D (.lst [])) b = some o → H' b = some o) (k2 : H' D = some (.lst ys)) : SL (And1 S D) H' σ ρ := by
  have slD := sl1.and1 (o := .lst []) nD
  have keep : ∀ {v : V} {d : PyData}, DG (And1 S D) (L2.upd H1 D (.lst [])) v d → DG (And1 S D) H' v d := fun g => g.mono (fun b xs e => k1 b _ (ne_of e upd_same (fun z => by cases z)) e) fun a o n e => ⟨n, k1 a o (fun z => n (.inr z)) e⟩
  exact ⟨fun b z w => by
      cases e : (L2.upd H1 D (.lst [])) b with
      | none => exact slD.dom b z e
      | some o =>
        by_cases bD : b = D
        · rw [bD, k2] at w; cases w
        · (rw [k1 b o bD e] at w; cases w), fun i d q => let ⟨v, a, b⟩ := slD.look i d q; ⟨v, a, keep b⟩, slD.len⟩
theorem d_lcS {z : Str} (j : Nat) (f : Nat → PyData) (hN : X.N.Nodup) (okb : BlkOk X.N X.env.scope scope [(x, j)]) (h : ED X ρ iter (.str z)) (l : z.length ≤ 1000) (hel : ∀ c ∈ z.cps.toList, BD X scope (ρ.set j (some (.str ⟨#[c]⟩))) elt (f c))
    (hg : ∀ (s : Shared) (H : Hp) (C : Addr) (cl : List (Str × Addr)) (fp : List Addr), PG (X.blk s H scope (compEnvC scope cl C X.env) fp) (.Name x pt) (gName j))
    (hc : X.calm = true := by rfl) (hs : ∀ z, foldedSetIterable iter X.env z = pure z := by intro _; rfl) : ED X ρ (.ListComp elt [⟨.Name x pt, iter, [], 0⟩] scope pos) (.list (z.cps.toList.map f)) := fun S σ H Q sl q => by
  refine e_lcS j hN okb (h S σ H _ sl fun v H1 s1 g1 => ?_) hg hc hs
  cases g1
  refine ⟨z, rfl, fun D nD => ?_⟩
  have sl1 := sl.same s1
  refine ⟨fun i H' => ∃ ys, (∀ b o, b ≠ D → (L2.upd H1 D (.lst [])) b = some o → H' b = some o) ∧ H' D = some (.lst ys) ∧ ys.length = i ∧ DGs (And1 S D) H' ys ((z.cps.toList.take i).map f), ?_, ?_, ?_⟩
  · exact ⟨[], fun b o _ e => e, upd_same, rfl, .nil⟩
  · rintro i ch H' hi ⟨ys, k1, k2, k3, k4⟩ s0 H00 C cl fp
    have hi' : z.cps.toList[i]? = some ch := by rw [Array.getElem?_toList]; exact hi
    have lt : i < z.cps.toList.length := (List.getElem?_eq_some_iff.mp hi').1
    have sl2 := SL.set (i := j) (lc_step nD sl1 k1 k2) (DG.str (S := And1 S D) (H := H') ⟨#[ch]⟩)
    have ew : (L2.wipe σ [j]).set j (some (V.str ⟨#[ch]⟩)) = σ.set j (some (V.str ⟨#[ch]⟩)) := by show (σ.set j none).set j _ = _; rw [List.set_set]
    rw [ew]
    refine hel ch (List.mem_of_getElem? hi') s0 H00 C cl fp (And1 S D) _ H' _ sl2 fun y H4 s4 g4 => ?_
    have h4 := s4 _ _ k2
    have i1 : i < 1001 := by
      have e : z.cps.toList.length = z.length := by rw [Array.length_toList]; rfl
      omega
    refine ⟨ys, h4, by rw [k3]; exact Nat.lt_of_lt_of_le i1 (by decide), ys ++ [y], fun b o n e => ?_, upd_same, by rw [List.length_append, k3]; rfl, ?_⟩
    · rw [upd_ne n]; exact s4 _ _ (k1 b o n e)
    · have e : z.cps.toList[i] = ch := by rw [List.getElem?_eq_getElem lt] at hi'; exact Option.some.inj hi'
      rw [List.take_succ_eq_append_getElem lt, List.map_append, e]
      exact ((k4.same s4).append (.cons g4 .nil)).put h4
  · rintro H' ⟨ys, k1, k2, k3, k4⟩
    have e : z.cps.size = z.cps.toList.length := by rw [Array.length_toList]
    rw [e, List.take_length] at k4
    refine q _ H' (s1.trans fun b o e => k1 b o (ne_of_none e nD) (same_new nD b o e)) (.lst k2 (fun z => sl1.dom D z nD) k4.un1)
theorem d_lcR {n : Nat} (j : Nat) (f : Nat → PyData) (hm : X.mg "range" = none) (hN : X.N.Nodup) (okb : BlkOk X.N X.env.scope scope [(x, j)]) (h : ED X ρ a (.int n)) (l : n ≤ 1000) (hel : ∀ i, i < n → BD X scope (ρ.set j (some (.int i))) elt (f i))
    (hg : ∀ (s : Shared) (H : Hp) (C : Addr) (cl : List (Str × Addr)) (fp : List Addr), PG (X.blk s H scope (compEnvC scope cl C X.env) fp) (.Name x pt) (gName j))
    (hgl : Gl X "range" := by rfl) (hst : starEach [a] X.env = [(false, eval a X.env)] := by rfl)
    (hc : X.calm = true := by rfl) (hs : ∀ z, foldedSetIterable (.Call (.Name "range" p) [a] [] pc) X.env z = pure z := by intro _; rfl) : ED X ρ (.ListComp elt [⟨.Name x pt, .Call (.Name "range" p) [a] [] pc, [], 0⟩] scope pos) (.list ((List.range n).map f)) := fun S σ H Q sl q => by
  refine e_lcR j hm hN okb (h S σ H _ sl fun v H1 s1 g1 => ?_) hg hgl hst hc hs
  cases g1
  refine ⟨n, rfl, by omega, fun D nD => ?_⟩
  have sl1 := sl.same s1
  refine ⟨fun i H' => ∃ ys, (∀ b o, b ≠ D → (L2.upd H1 D (.lst [])) b = some o → H' b = some o) ∧ H' D = some (.lst ys) ∧ ys.length = i ∧ DGs (And1 S D) H' ys ((List.range i).map f), ?_, ?_, ?_⟩
  · exact ⟨[], fun b o _ e => e, upd_same, rfl, .nil⟩
  · rintro i H' hi ⟨ys, k1, k2, k3, k4⟩ s0 H00 C cl fp
    have sl2 := SL.set (i := j) (lc_step nD sl1 k1 k2) (DG.int (S := And1 S D) (H := H') (i : Int))
    have ew : (L2.wipe σ [j]).set j (some (V.int i)) = σ.set j (some (V.int i)) := by show (σ.set j none).set j _ = _; rw [List.set_set]
    rw [ew]
    refine hel i hi s0 H00 C cl fp (And1 S D) _ H' _ sl2 fun y H4 s4 g4 => ?_
    have h4 := s4 _ _ k2
    refine ⟨ys, h4, by rw [k3]; exact Nat.lt_of_lt_of_le (show i < 1001 by omega) (by decide), ys ++ [y], fun b o n e => ?_, upd_same, by rw [List.length_append, k3]; rfl, ?_⟩
    · rw [upd_ne n]; exact s4 _ _ (k1 b o n e)
    · rw [List.range_succ, List.map_append]
      exact ((k4.same s4).append (.cons g4 .nil)).put h4
  · rintro H' ⟨ys, k1, k2, k3, k4⟩
    exact q _ H' (s1.trans fun b o e => k1 b o (ne_of_none e nD) (same_new nD b o e)) (.lst k2 (fun z => sl1.dom D z nD) k4.un1)
end
/-! ### unpacking, for -/
variable {st : Stmt} {l l1 l2 : List Stmt} {o : Out} {ρ1 : Rho} {x1 x2 x3 x4 : Str} {q1 q2 q3 q4 : Pos} {kt : _}
theorem sd_unp2 {da db : PyData} (i1 i2 : Nat) (h : ED X ρ e (.tuple [da, db])) (hg : PG X (.Tuple [.Name x1 q1, .Name x2 q2] kt pt) (gTup X.K 2 (gCons (gName i1) (gCons (gName i2) gNil))))
    (hs : swapsWithSole [.Tuple [.Name x1 q1, .Name x2 q2] kt pt] e pos.line X.env = pure false := by rfl) (hw : swappedStores [.Tuple [.Name x1 q1, .Name x2 q2] kt pt] e X.env = pure none := by rfl)
    (h1 : (assignEach [.Tuple [.Name x1 q1, .Name x2 q2] kt pt] X.env).map (·.2) = [assign (.Tuple [.Name x1 q1, .Name x2 q2] kt pt) X.env] := by rfl) : SD X ρ (.Assign [.Tuple [.Name x1 q1, .Name x2 q2] kt pt] e pos) (.nx ((ρ.set i1 (some da)).set i2 (some db))) := fun S σ H D sl q =>
  s_asg hg (h S σ H _ sl fun v H1 s1 g1 => by
    obtain ⟨a, xs, rfl, _, hs, sq⟩ := g1.seq (K := X.K)
    cases hs with | cons ga hs => cases hs with | cons gb hs => cases hs with | nil =>
      exact ⟨a, _, rfl, sq, rfl, _, _, rfl, _, _, rfl, rfl, q _ H1 s1 (((sl.same s1).set ga).set gb)⟩) hs hw h1
theorem sd_unp3 {da db dc : PyData} (i1 i2 i3 : Nat) (h : ED X ρ e (.tuple [da, db, dc])) (hg : PG X (.Tuple [.Name x1 q1, .Name x2 q2, .Name x3 q3] kt pt) (gTup X.K 3 (gCons (gName i1) (gCons (gName i2) (gCons (gName i3) gNil)))))
    (hs : swapsWithSole [.Tuple [.Name x1 q1, .Name x2 q2, .Name x3 q3] kt pt] e pos.line X.env = pure false := by rfl) (hw : swappedStores [.Tuple [.Name x1 q1, .Name x2 q2, .Name x3 q3] kt pt] e X.env = pure none := by rfl)
    (h1 : (assignEach [.Tuple [.Name x1 q1, .Name x2 q2, .Name x3 q3] kt pt] X.env).map (·.2) = [assign (.Tuple [.Name x1 q1, .Name x2 q2, .Name x3 q3] kt pt) X.env] := by rfl) : SD X ρ (.Assign [.Tuple [.Name x1 q1, .Name x2 q2, .Name x3 q3] kt pt] e pos) (.nx (((ρ.set i1 (some da)).set i2 (some db)).set i3 (some dc))) := fun S σ H D sl q =>
  s_asg hg (h S σ H _ sl fun v H1 s1 g1 => by
    obtain ⟨a, xs, rfl, _, hs, sq⟩ := g1.seq (K := X.K)
    cases hs with | cons ga hs => cases hs with | cons gb hs => cases hs with | cons gc hs => cases hs with | nil =>
      exact ⟨a, _, rfl, sq, rfl, _, _, rfl, _, _, rfl, _, _, rfl, rfl, q _ H1 s1 ((((sl.same s1).set ga).set gb).set gc)⟩) hs hw h1
theorem sd_unp4 {da db dc de : PyData} (i1 i2 i3 i4 : Nat) (h : ED X ρ e (.tuple [da, db, dc, de])) (hg : PG X (.Tuple [.Name x1 q1, .Name x2 q2, .Name x3 q3, .Name x4 q4] kt pt) (gTup X.K 4 (gCons (gName i1) (gCons (gName i2) (gCons (gName i3) (gCons (gName i4) gNil))))))
    (hs : swapsWithSole [.Tuple [.Name x1 q1, .Name x2 q2, .Name x3 q3, .Name x4 q4] kt pt] e pos.line X.env = pure false := by rfl) (hw : swappedStores [.Tuple [.Name x1 q1, .Name x2 q2, .Name x3 q3, .Name x4 q4] kt pt] e X.env = pure none := by rfl)
    (h1 : (assignEach [.Tuple [.Name x1 q1, .Name x2 q2, .Name x3 q3, .Name x4 q4] kt pt] X.env).map (·.2) = [assign (.Tuple [.Name x1 q1, .Name x2 q2, .Name x3 q3, .Name x4 q4] kt pt) X.env] := by rfl) : SD X ρ (.Assign [.Tuple [.Name x1 q1, .Name x2 q2, .Name x3 q3, .Name x4 q4] kt pt] e pos) (.nx ((((ρ.set i1 (some da)).set i2 (some db)).set i3 (some dc)).set i4 (some de))) := fun S σ H D sl q =>
  s_asg hg (h S σ H _ sl fun v H1 s1 g1 => by
    obtain ⟨a, xs, rfl, _, hs, sq⟩ := g1.seq (K := X.K)
    cases hs with | cons ga hs => cases hs with | cons gb hs => cases hs with | cons gc hs => cases hs with | cons gd hs => cases hs with | nil =>
      exact ⟨a, _, rfl, sq, rfl, _, _, rfl, _, _, rfl, _, _, rfl, _, _, rfl, rfl, q _ H1 s1 (((((sl.same s1).set ga).set gb).set gc).set gd)⟩) hs hw h1
/-- for x in a tuple; each turn goes on (to the next turn's slots), or returns -/
inductive ForD (X : Cx) (j : Nat) (body : List Stmt) : List PyData → Rho → Out → Prop
  | done {ρ : Rho} : ForD X j body [] ρ (.nx ρ)
  | next {ρ ρ1 : Rho} {d : PyData} {ds : List PyData} {o : Out} (h : LD X (ρ.set j (some d)) body (.nx ρ1)) (r : ForD X j body ds ρ1 o) : ForD X j body (d :: ds) ρ o
  | ret {ρ : Rho} {d r : PyData} {ds : List PyData} (h : LD X (ρ.set j (some d)) body (.ret r)) : ForD X j body (d :: ds) ρ (.ret r)
theorem sd_forT {iter : Expr} {body : List Stmt} (j : Nat) (h : ED X ρ iter (.tuple ds)) (hf : ForD X j body ds ρ o) (hg : PG X (.Name x pt) (gName j)) (hp : PassesOwn (model X.prog X.w) X.A X.env X.xe) (hc : X.calm = true := by rfl)
    (hs : ∀ x, foldedSetIterable iter X.env x = pure x := by intro _; rfl) : SD X ρ (.For (.Name x pt) iter body [] pos) o := fun S σ H D sl q => by
  refine s_for (pi_tup pE) hg (h S σ H _ sl fun v H1 s1 g1 => ?_) hp hc hs
  obtain ⟨a, xs, rfl, ha, hds, sq⟩ := g1.seq (K := X.K)
  refine ⟨a, rfl, ⟨xs, sq⟩, for_tup (xs := xs) (fun i σ' H' => ∃ ρ', Same H1 H' ∧ SL S H' σ' ρ' ∧ ForD X j body (ds.drop i) ρ' o) ⟨ρ, Same.refl _, sl.same s1, hf⟩ (fun i σ' H' _ ⟨_, s2, _⟩ => .inl (.inl (s2 _ _ ha))) ?_ ?_⟩
  · rintro i y σ' H' hi ⟨ρ', s2, sl2, fd⟩
    obtain ⟨d, hd, hy⟩ := hds.get hi
    have lt : i < ds.length := (List.getElem?_eq_some_iff.mp hd).1
    have e : ds.drop i = d :: ds.drop (i + 1) := by
      rw [List.drop_eq_getElem_cons lt]
      rw [List.getElem?_eq_getElem lt] at hd
      rw [Option.some.inj hd]
    rw [e] at fd
    have sl3 := sl2.set (i := j) (hy.same s2)
    cases fd with
    | next hb r => exact hb S _ H' _ sl3 fun σ4 H4 s4 sl4 => ⟨_, s2.trans s4, sl4, r⟩
    | ret hb => exact hb S _ H' _ sl3 fun v H4 s4 g4 => q v H4 (s1.trans (s2.trans s4)) g4
  · rintro σ' H' ⟨ρ', s2, sl2, fd⟩
    rw [hds.length, List.drop_length] at fd
    cases fd
    exact q σ' H' (s1.trans s2) sl2
end
end My

namespace My
open PySem PySem.Spec PyProof.Rows L2
/-! ### forms, as functions on data -/
def els : PyData → List PyData | .tuple ds => ds | _ => []
def at' (d : PyData) (i : Nat) : PyData := (els d).getD i .none
def tupN (d : PyData) (n : Nat) : Bool := isTup d && decide ((els d).length = n)
def nnD (d : PyData) : Bool := isNone d || namD d
def pairD (d : PyData) : Bool := tupN d 2
def colD (d : PyData) : Bool := pairD d && (nnD (at' d 0) && namD (at' d 1))
def callD : Nat → PyData → Bool
  | 0, _ => false
  | k + 1, d => tupN d 4 && (eqS (at' d 0) "call" && nnD (at' d 1) && namD (at' d 2)) && tupD 1 2 (fun x => colD x || valD x || callD k x) (at' d 3)
def toldD (d : PyData) : Bool := if pairD d then eqS (at' d 0) "star" && namD (at' d 1) else tupN d 3 && namD (at' d 2) && (if eqS (at' d 0) "column" then colD (at' d 1) else eqS (at' d 0) "term" && (valD (at' d 1) || callD 3 (at' d 1)))
def srcD (d : PyData) : Bool := tupN d 3 && (nnD (at' d 0) && namD (at' d 1) && namD (at' d 2))
def condD (d : PyData) : Bool := tupN d 3 && colD (at' d 1) && (if eqS (at' d 0) "equal" then colD (at' d 2) else eqS (at' d 0) "in" && valsD (at' d 2))
def labs (d : PyData) (i : Nat) : List Str := (els d).map fun x => My.strOf (at' x i)
def stD (d : PyData) : Bool := tupN d 4 && (isBoo (at' d 0) && tupD 1 8 toldD (at' d 1) && tupD 1 4 srcD (at' d 2) && decide (labs (at' d 2) 2).Nodup && tupD 0 8 condD (at' d 3))
def hasV : Nat → PyData → Bool
  | 0, d => isStr d
  | k + 1, d => isStr d || (!pairD d && (els (at' d 3)).any (hasV k))
def truB : PyData → Bool | .bool b => b | _ => false
def viewD (d : PyData) : Bool := stD d && !truB (at' d 0) && (els (at' d 1)).all (fun it => !(eqS (at' it 0) "star" || hasV 3 (at' it 1))) && decide (labs (at' d 1) 2).Nodup
def pathD (d : PyData) : Bool := tupD 0 6 namD d && decide ((els d).map My.strOf).Nodup
theorem els_tup {d : PyData} (h : isTup d = true) : d = .tuple (els d) := by cases d <;> first | rfl | cases h
theorem tupN_tup {d : PyData} {n : Nat} (h : tupN d n = true) : isTup d = true ∧ (els d).length = n := by
  unfold tupN at h
  rw [Bool.and_eq_true, decide_eq_true_eq] at h
  exact h
theorem at_get {d : PyData} {i : Nat} (h : i < (els d).length) : (els d)[i]? = some (at' d i) := by
  unfold at'
  rw [List.getD_eq_getElem?_getD, List.getElem?_eq_getElem h]; rfl
theorem okS_at {d : PyData} (h : okS d = true) (i : Nat) : okS (at' d i) = true := by
  unfold at'
  by_cases lt : i < (els d).length
  · rw [List.getD_eq_getElem?_getD, List.getElem?_eq_getElem lt]
    have hm : (els d)[i] ∈ els d := List.getElem_mem lt
    cases d with
    | tuple ds => exact okS_t h _ hm
    | _ => cases hm
  · rw [List.getD_eq_getElem?_getD, List.getElem?_eq_none (by omega)]
    decide +kernel
theorem okS_els {d : PyData} (h : okS d = true) : ∀ x ∈ els d, okS x = true := fun x hx => by
  cases d with
  | tuple ds => exact okS_t h x hx
  | _ => cases hx
theorem tupD_els {lo hi : Int} {f : PyData → Bool} {d : PyData} (h : tupD lo hi f d = true) : isTup d = true ∧ lo ≤ (els d).length ∧ ((els d).length : Int) ≤ hi ∧ ∀ x ∈ els d, f x = true := by
  cases d with
  | tuple ds =>
    have h' : (decide (lo ≤ (ds.length : Int)) && decide ((ds.length : Int) ≤ hi) && ds.all f) = true := h
    rw [Bool.and_eq_true, Bool.and_eq_true, decide_eq_true_eq, decide_eq_true_eq, List.all_eq_true] at h'
    exact ⟨rfl, h'.1.1, h'.1.2, h'.2⟩
  | _ => cases h
theorem nam_str {d : PyData} (h : namD d = true) : d = .str (My.strOf d) := by cases d <;> first | rfl | cases h
theorem dec_cast (a b : Nat) : decide ((a : Int) = (b : Int)) = decide (a = b) := by
  apply Bool.eq_iff_iff.mpr
  rw [decide_eq_true_eq, decide_eq_true_eq]
  exact Int.ofNat_inj
section
variable {X : Cx} {ρ : Rho} {a b c e : Expr} {es rest : List Expr} {d d1 d2 : PyData} {ds ds2 : List PyData} {pos p p2 p3 pc pt : Pos} {x y : Str} {k m : Bool}
/-- thing[i] -/
theorem d_at {i : Nat} {j} {n : Nat} (ha : ED X ρ a d) (h : isTup d = true) (hi : i < (els d).length) : ED X ρ (.Subscript a (.Constant (.int i) j p) pos) (at' d i) := by
  refine d_ix (ds := els d) (i := i) (ha.cast (els_tup h)) (d_int i) (at_get hi)
/-- .. as a part of a longer one -/
theorem wd_tupN {a2 : Expr} {n : Nat} {j} (G : X.mg "isinstance" = none ∧ X.mg "tuple" = none ∧ X.mg "len" = none) (h : ED X ρ a d) (hB : ED X ρ a2 d) (hr : tupN d n = true → WD X ρ (.BoolOp .Or (b :: rest) pos) m) (hg : Gl X "isinstance" := by rfl) (hgT : Gl X "tuple" := by rfl) (hgl : Gl X "len" := by rfl) {q1 q2 q3 q4 q5 q6 q7 : Pos}
    (he : starEach [a, .Name "tuple" q2] X.env = (false, eval a X.env) :: starEach [.Name "tuple" q2] X.env := by rfl) (he2 : starEach [a2] X.env = (false, eval a2 X.env) :: starEach [] X.env := by rfl)
    (hi1 : ∀ whole, isTrue (.Call (.Name "isinstance" q1) [a, .Name "tuple" q2] [] q3) X.env whole = (do let v ← whole; standAt q3; holding [v] (truthy v)) := by intro _; rfl) :
    WD X ρ (.BoolOp .Or (.UnaryOp .Not (.Call (.Name "isinstance" q1) [a, .Name "tuple" q2] [] q3) q4 :: .Compare (.Call (.Name "len" q5) [a2] [] q6) [.NotEq] [.Constant (.int n) j p] q7 :: b :: rest) pos) (!tupN d n || m) := by
  have e : (!tupN d n || m) = (!isTup d || (!decide ((els d).length = n) || m)) := by unfold tupN; cases isTup d <;> cases decide ((els d).length = n) <;> rfl
  rw [e]
  refine wd_or (td_not (td_val (d_isTup G.1 G.2.1 h hg hgT he) hi1)) fun ht => ?_
  have ht' : isTup d = true := by simpa using ht
  refine wd_or (td_cmp o_neI (d_len (ds := els d) G.2.2 (hB.cast (els_tup ht')) hgl he2) (d_int _) ⟨_, _, rfl, rfl, congrArg Bool.not (dec_cast _ _).symm⟩ (by exact nomark _)) fun hl => hr ?_
  have hl' : (els d).length = n := by simpa using hl
  unfold tupN
  rw [ht', hl', decide_eq_true rfl]; rfl
/-! promises of one argument -/
def F1 (f : PyData → Bool) : List PyData → Option PyData
  | [d] => if okS d then some (.bool (f d)) else none
  | _ => none
theorem spD_B {f : PyData → Bool} {vs : List V} {H : Hp} {Q : VK} {E : XK} (h : spD (F1 f) vs H Q E) : spB f vs H Q E := by
  obtain ⟨S, ds, d, g, hS, e, q⟩ := h
  cases g with
  | nil => cases e
  | cons g1 gs =>
    cases gs with
    | cons _ _ => cases e
    | nil =>
      rename_i v d0
      by_cases hk : okS d0 = true
      · have e' : (if okS d0 then some (PyData.bool (f d0)) else none) = some d := e
        rw [if_pos hk] at e'
        cases e'
        exact ⟨S, v, d0, rfl, g1, hk, fun H' s => q _ H' s (.bl _)⟩
      · have e' : (if okS d0 then some (PyData.bool (f d0)) else none) = some d := e
        rw [if_neg hk] at e'
        cases e'
theorem F1_of {f : PyData → Bool} {d : PyData} (h : okS d = true) : F1 f [d] = some (.bool (f d)) := if_pos h
theorem F1_len {f : PyData → Bool} (ds : List PyData) (d : PyData) (h : F1 f ds = some d) : ds.length = 1 := by
  match ds, h with
  | [_], _ => rfl
  | [], h => cases h
  | _ :: _ :: _, h => cases h
theorem F1_inv {f : PyData → Bool} {ds : List PyData} {r : PyData} (h : F1 f ds = some r) : ∃ d, ds = [d] ∧ okS d = true ∧ r = .bool (f d) := by
  match ds, h with
  | [d], h =>
    by_cases hk : okS d = true
    · have e' : (if okS d then some (PyData.bool (f d)) else none) = some r := h
      rw [if_pos hk] at e'
      exact ⟨d, rfl, hk, by cases e'; rfl⟩
    · have e' : (if okS d then some (PyData.bool (f d)) else none) = some r := h
      rw [if_neg hk] at e'
      cases e'
  | [], h => cases h
  | _ :: _ :: _, h => cases h
theorem FnOk.to {P : Program} {w : World} {K : PySem.W.Frag} {mg : Str → Option Value} {base : Heap} {k : Nat} {f : Addr} {fd : FuncData} {ps : List Str} {sp sp' : Sp} (h : FnOk P w K mg base CX0 k f fd ps sp) (i : ∀ vs H Q E, sp' vs H Q E → sp vs H Q E) : FnOk P w K mg base CX0 k f fd ps sp' :=
  ⟨fun vs H Q E q => h.len vs H Q E (i vs H Q E q), fun B out s H ar us vs Q E r e b v q => h.run B out s H ar us vs Q E r e b v (i vs H Q E q)⟩
theorem spB_D {f : PyData → Bool} {vs : List V} {H : Hp} {Q : VK} {E : XK} (hd : ∀ (S : Addr → Prop) (v : V) (d : PyData), DG S H v d → DG (fun _ => False) H v d) (h : spB f vs H Q E) : spD (F1 f) vs H (fun v H' => Q v H') E := by
  obtain ⟨S, v, d, rfl, g, hk, q⟩ := h
  refine ⟨fun _ => False, [d], .bool (f d), .cons (hd S v d g) .nil, fun _ z => z.elim, F1_of hk, fun u H' s gu => ?_⟩
  cases gu
  exact q H' s
theorem spB_D' {f : PyData → Bool} {vs : List V} {H : Hp} {Q : VK} {E : XK} (h : spB f vs H Q E) : spD (F1 f) vs H Q E :=
  spB_D (fun S v d g => g.mono (Tup.refl _) fun a o _ e => ⟨fun z => z, e⟩) h
theorem d_fn {kk j : Nat} {f : PyData → Bool} (cF : CalN X.prog X.w X.K X.mg X.base kk x (spB f)) (hr : Room j X.A) (hk : kk ≤ j) (h : ED X ρ e d) (ok : okS d = true) (hg : Gl X x := by rfl)
    (hdb : (x == ("__debug__" : Str)) = false := by decide) (he : starEach [e] X.env = (false, eval e X.env) :: starEach [] X.env := by rfl) : ED X ρ (.Call (.Name x p) [e] [] pos) (.bool (f d)) := fun S σ H Q sl q =>
  e_c cF hr hk (a_cons (h S σ H _ sl fun v H1 s1 g1 => a_nil ⟨S, v, d, rfl, g1, ok, fun H2 s2 => q _ H2 (s1.trans s2) (.bl _)⟩) he) hg hdb he rfl
theorem d_tupOf {kt k j : Nat} {f : PyData → Bool} {lo hi : Int} {el eh : Expr} (cT : CalN X.prog X.w X.K X.mg X.base kt "is_tuple_of" (spTO X.prog X.w X.K X.mg X.base k)) (cF : CalN X.prog X.w X.K X.mg X.base k y (spB f)) (hr : Room j X.A) (hk : kt ≤ j)
    (h : ED X ρ e d) (h1 : ED X ρ el (.int lo)) (h2 : ED X ρ eh (.int hi)) (ok : okS d = true) (hh : hi ≤ 1000) (hg : Gl X "is_tuple_of" := by rfl) (hgy : Gl X y := by rfl) (hdy : (y == ("__debug__" : Str)) = false := by decide)
    (s1 : starEach [e, el, eh, .Name y p2] X.env = (false, eval e X.env) :: starEach [el, eh, .Name y p2] X.env := by rfl) (s2 : starEach [el, eh, .Name y p2] X.env = (false, eval el X.env) :: starEach [eh, .Name y p2] X.env := by rfl)
    (s3 : starEach [eh, .Name y p2] X.env = (false, eval eh X.env) :: starEach [.Name y p2] X.env := by rfl) (hpl : (backTo pos (starEach [el, eh, .Name y p2] X.env)).any (·.1) = false := by rfl) :
    ED X ρ (.Call (.Name "is_tuple_of" p) [e, el, eh, .Name y p2] [] pos) (.bool (tupD lo hi f d)) := fun S σ H Q sl q => by
  obtain ⟨g, gd, gps, Fg, mgG, kg, bg⟩ := cF.ex
  refine e_c cT hr hk (a_cons (h S σ H _ sl fun v H1 t1 g1 => a_cons (h1 S σ H1 _ (sl.same t1) fun u1 H2 t2 g2 => a_cons (h2 S σ H2 _ (sl.same (t1.trans t2)) fun u2 H3 t3 g3 => a_cons (e_glob (v := .ref g) mgG rfl (a_nil ?_) hgy hdy) rfl) s3) s2) s1) hg (by decide) s1 hpl
  cases g2; cases g3
  exact ⟨S, v, d, lo, hi, g, f, rfl, ⟨gd, gps, Fg, kg, bg⟩, hh, (g1.same t2).same t3, ok, fun H4 t4 => q _ H4 (t1.trans (t2.trans (t3.trans t4))) (.bl _)⟩
theorem d_diff {kk j : Nat} {zs : List Str} (cF : CalN X.prog X.w X.K X.mg X.base kk x (spDiff X.K)) (hr : Room j X.A) (hk : kk ≤ j) (h : ED X ρ e (.list (zs.map PyData.str)) ∨ ED X ρ e (.tuple (zs.map PyData.str))) (hl : zs.length ≤ 1000) (hg : Gl X x := by rfl)
    (hdb : (x == ("__debug__" : Str)) = false := by decide) (he : starEach [e] X.env = (false, eval e X.env) :: starEach [] X.env := by rfl) : ED X ρ (.Call (.Name x p) [e] [] pos) (.bool (decide zs.Nodup)) := fun S σ H Q sl q => by
  refine e_c cF hr hk (a_cons ?_ he) hg hdb he rfl
  rcases h with h | h
  · exact h S σ H _ sl fun v H1 s1 g1 => by
      obtain ⟨a, xs, rfl, _, hs, sq⟩ := g1.seqL (K := X.K)
      rw [strsE hs] at sq
      exact a_nil ⟨a, zs, rfl, .inl sq, hl, q _ H1 s1 (.bl _)⟩
  · exact h S σ H _ sl fun v H1 s1 g1 => by
      obtain ⟨a, xs, rfl, _, hs, sq⟩ := g1.seq (K := X.K)
      rw [strsE hs] at sq
      exact a_nil ⟨a, zs, rfl, .inr sq, hl, q _ H1 s1 (.bl _)⟩
end
/-- a def of one argument, by its promise -/
theorem Fun.ok1 {P : Program} {w : World} {K : PySem.W.Frag} {mg : Str → Option Value} {base : Heap} {x qual : Str} {st : Stmt} {f : Addr} {fd : FuncData} {N : List Str} {y : Str} {k : Nat} {φ : PyData → Bool} (F : Fun K x qual st f fd) (S : FnScope N [y] (defScope st))
    (body : ∀ (cdv : Value) (B : Around) (out : List Env) (s : Shared) (H : Hp) (E : XK) (d : PyData), Room k (B.deeper (envOfC qual (defScope st) s.heap.objs.size f cdv)) → okS d = true →
      LD (cxOf CX0 P w K mg base N qual (defScope st) f cdv B out s H E).nox (startD N [d]) (defBody st) (.ret (.bool (φ d)))) : FnOk P w K mg base CX0 (k + 1) f fd [y] (spB φ) :=
  FnOk.to (Fun.okD (Fn := F1 φ) F S F1_len fun cdv B out s H E ds r hr h => by
    obtain ⟨d, rfl, hk, rfl⟩ := F1_inv h
    exact body cdv B out s H E d hr hk) fun vs H Q E h => spB_D' h
/-! more rules -/
section
variable {X : Cx} {ρ : Rho} {a b c e : Expr} {es rest : List Expr} {d d1 d2 : PyData} {ds ds2 : List PyData} {pos p p2 p3 pc pt : Pos} {x y : Str} {k m : Bool} {st : Stmt} {l l1 l2 : List Stmt}
theorem LD.cast {d' : PyData} (h : LD X ρ l (.ret d)) (q : d = d') : LD X ρ l (.ret d') := q ▸ h
theorem WD.cast {k' : Bool} (h : WD X ρ e k) (q : k = k') : WD X ρ e k' := q ▸ h
theorem wd_tupN1 {a2 : Expr} {n : Nat} {j} (G : X.mg "isinstance" = none ∧ X.mg "tuple" = none ∧ X.mg "len" = none) (h : ED X ρ a d) (hB : ED X ρ a2 d) (hg : Gl X "isinstance" := by rfl) (hgT : Gl X "tuple" := by rfl) (hgl : Gl X "len" := by rfl) {q1 q2 q3 q4 q5 q6 q7 : Pos}
    (he : starEach [a, .Name "tuple" q2] X.env = (false, eval a X.env) :: starEach [.Name "tuple" q2] X.env := by rfl) (he2 : starEach [a2] X.env = (false, eval a2 X.env) :: starEach [] X.env := by rfl)
    (hi1 : ∀ whole, isTrue (.Call (.Name "isinstance" q1) [a, .Name "tuple" q2] [] q3) X.env whole = (do let v ← whole; standAt q3; holding [v] (truthy v)) := by intro _; rfl) :
    WD X ρ (.BoolOp .Or [.UnaryOp .Not (.Call (.Name "isinstance" q1) [a, .Name "tuple" q2] [] q3) q4, .Compare (.Call (.Name "len" q5) [a2] [] q6) [.NotEq] [.Constant (.int n) j p] q7] pos) (!tupN d n) := by
  have e : (!tupN d n) = (!isTup d || !decide ((els d).length = n)) := by unfold tupN; cases isTup d <;> rfl
  rw [e]
  refine wd_or (td_not (td_val (d_isTup G.1 G.2.1 h hg hgT he) hi1)) fun ht => wd_or1 ?_
  have ht' : isTup d = true := by simpa using ht
  exact td_cmp o_neI (d_len (ds := els d) G.2.2 (hB.cast (els_tup ht')) hgl he2) (d_int _) ⟨_, _, rfl, rfl, congrArg Bool.not (dec_cast _ _).symm⟩ (by exact nomark _)
/-- not isinstance(x, tuple) or not lo <= len(x) <= hi -/
theorem wd_tupB {a2 : Expr} {lo hi : Int} {el eh : Expr} (G : X.mg "isinstance" = none ∧ X.mg "tuple" = none ∧ X.mg "len" = none) (h : ED X ρ a d) (hB : ED X ρ a2 d) (h1 : ED X ρ el (.int lo)) (h2 : ED X ρ eh (.int hi)) (hg : Gl X "isinstance" := by rfl) (hgT : Gl X "tuple" := by rfl) (hgl : Gl X "len" := by rfl) {q1 q2 q3 q4 q5 q6 q7 q8 : Pos}
    (he : starEach [a, .Name "tuple" q2] X.env = (false, eval a X.env) :: starEach [.Name "tuple" q2] X.env := by rfl) (he2 : starEach [a2] X.env = (false, eval a2 X.env) :: starEach [] X.env := by rfl)
    (hi1 : ∀ whole, isTrue (.Call (.Name "isinstance" q1) [a, .Name "tuple" q2] [] q3) X.env whole = (do let v ← whole; standAt q3; holding [v] (truthy v)) := by intro _; rfl)
    (hm : lastMarks [.LtE, .LtE] [.Call (.Name "len" q5) [a2] [] q6, eh] = false := by with_unfolding_all rfl) :
    WD X ρ (.BoolOp .Or [.UnaryOp .Not (.Call (.Name "isinstance" q1) [a, .Name "tuple" q2] [] q3) q4, .UnaryOp .Not (.Compare el [.LtE, .LtE] [.Call (.Name "len" q5) [a2] [] q6, eh] q7) q8] pos) (!tupD lo hi (fun _ => true) d) := by
  have e : (!tupD lo hi (fun _ => true) d) = (!isTup d || !(decide (lo ≤ ((els d).length : Int)) && decide (((els d).length : Int) ≤ hi))) := by
    cases d with
    | tuple ds =>
      show (!(decide (lo ≤ (ds.length : Int)) && decide ((ds.length : Int) ≤ hi) && ds.all fun _ => true)) = (false || !(decide (lo ≤ (ds.length : Int)) && decide ((ds.length : Int) ≤ hi)))
      have : (ds.all fun _ => true) = true := by simp
      rw [this, Bool.and_true, Bool.false_or]
    | _ => rfl
  rw [e]
  refine wd_or (td_not (td_val (d_isTup G.1 G.2.1 h hg hgT he) hi1)) fun ht => wd_or1 (td_not ?_)
  have ht' : isTup d = true := by simpa using ht
  exact td_btw h1 (d_len (ds := els d) G.2.2 (hB.cast (els_tup ht')) hgl he2) (fun _ => h2) hm
theorem tup2 (h : tupN d 2 = true) : d = .tuple [at' d 0, at' d 1] := by
  obtain ⟨h1, h2⟩ := tupN_tup h
  cases d with
  | tuple ds => match ds, h2 with | [_, _], _ => rfl
  | _ => cases h1
theorem tup3 (h : tupN d 3 = true) : d = .tuple [at' d 0, at' d 1, at' d 2] := by
  obtain ⟨h1, h2⟩ := tupN_tup h
  cases d with
  | tuple ds => match ds, h2 with | [_, _, _], _ => rfl
  | _ => cases h1
theorem tup4 (h : tupN d 4 = true) : d = .tuple [at' d 0, at' d 1, at' d 2, at' d 3] := by
  obtain ⟨h1, h2⟩ := tupN_tup h
  cases d with
  | tuple ds => match ds, h2 with | [_, _, _, _], _ => rfl
  | _ => cases h1
theorem map_bool (g : PyData → Bool) (ds : List PyData) : ds.map (fun x => PyData.bool (g x)) = (ds.map g).map PyData.bool := by rw [List.map_map]; rfl
section
variable {elt iter : Expr} {scope : Scope}
theorem d_allT (j : Nat) (g : PyData → Bool) (hm : X.mg "all" = none) (hN : X.N.Nodup) (okb : BlkOk X.N X.env.scope scope [(x, j)]) (h : ED X ρ iter (.tuple ds)) (l : ds.length ≤ 1000) (hel : ∀ d ∈ ds, BD X scope (ρ.set j (some d)) elt (.bool (g d)))
    (hg : ∀ (s : Shared) (H : Hp) (C : Addr) (cl : List (Str × Addr)) (fp : List Addr), PG (X.blk s H scope (compEnvC scope cl C X.env) fp) (.Name x pt) (gName j))
    (hgl : Gl X "all" := by rfl) (hc : X.calm = true := by rfl) (hs : ∀ z, foldedSetIterable iter X.env z = pure z := by intro _; rfl)
    (he : starEach [.ListComp elt [⟨.Name x pt, iter, [], 0⟩] scope pc] X.env = (false, eval (.ListComp elt [⟨.Name x pt, iter, [], 0⟩] scope pc) X.env) :: starEach [] X.env := by rfl) :
    ED X ρ (.Call (.Name "all" p) [.ListComp elt [⟨.Name x pt, iter, [], 0⟩] scope pc] [] pos) (.bool (ds.all g)) := by
  have h1 := d_all hm ((d_lcT (pos := pc) (n := 0) j (fun d => .bool (g d)) hN okb h l hel hg hc hs).cast (by rw [map_bool])) hgl hc he (p := p) (pos := pos)
  exact h1.cast (by rw [List.all_map]; rfl)
theorem d_anyT (j : Nat) (g : PyData → Bool) (hm : X.mg "any" = none) (hN : X.N.Nodup) (okb : BlkOk X.N X.env.scope scope [(x, j)]) (h : ED X ρ iter (.tuple ds)) (l : ds.length ≤ 1000) (hel : ∀ d ∈ ds, BD X scope (ρ.set j (some d)) elt (.bool (g d)))
    (hg : ∀ (s : Shared) (H : Hp) (C : Addr) (cl : List (Str × Addr)) (fp : List Addr), PG (X.blk s H scope (compEnvC scope cl C X.env) fp) (.Name x pt) (gName j))
    (hgl : Gl X "any" := by rfl) (hc : X.calm = true := by rfl) (hs : ∀ z, foldedSetIterable iter X.env z = pure z := by intro _; rfl)
    (he : starEach [.ListComp elt [⟨.Name x pt, iter, [], 0⟩] scope pc] X.env = (false, eval (.ListComp elt [⟨.Name x pt, iter, [], 0⟩] scope pc) X.env) :: starEach [] X.env := by rfl) :
    ED X ρ (.Call (.Name "any" p) [.ListComp elt [⟨.Name x pt, iter, [], 0⟩] scope pc] [] pos) (.bool (ds.any g)) := by
  have h1 := d_any hm ((d_lcT (pos := pc) (n := 0) j (fun d => .bool (g d)) hN okb h l hel hg hc hs).cast (by rw [map_bool])) hgl hc he (p := p) (pos := pos)
  exact h1.cast (by rw [List.any_map]; rfl)
end
theorem tupD_no {lo hi : Int} {f : PyData → Bool} (h : tupD lo hi (fun _ => true) d = false) : tupD lo hi f d = false := by
  cases d with
  | tuple ds =>
    have h' : (decide (lo ≤ (ds.length : Int)) && decide ((ds.length : Int) ≤ hi) && ds.all fun _ => true) = false := h
    have e : (ds.all fun _ => true) = true := by simp
    rw [e, Bool.and_true] at h'
    show (decide (lo ≤ (ds.length : Int)) && decide ((ds.length : Int) ≤ hi) && ds.all f) = false
    rw [h']; rfl
  | _ => rfl
theorem tupD_yes {lo hi : Int} {f : PyData → Bool} (h : tupD lo hi (fun _ => true) d = true) : tupD lo hi f d = (els d).all f := by
  cases d with
  | tuple ds =>
    have h' : (decide (lo ≤ (ds.length : Int)) && decide ((ds.length : Int) ≤ hi) && ds.all fun _ => true) = true := h
    have e : (ds.all fun _ => true) = true := by simp
    rw [e, Bool.and_true] at h'
    show (decide (lo ≤ (ds.length : Int)) && decide ((ds.length : Int) ≤ hi) && ds.all f) = ds.all f
    rw [h']; rfl
  | _ => cases h
theorem d_subI {i j : Int} (ha : ED X ρ a (.int i)) (hb : ED X ρ b (.int j)) : ED X ρ (.BinOp a .Sub b pos) (.int (i - j)) := fun S σ H Q sl q =>
  e_subI (ha S σ H _ sl fun v H1 s1 g1 => hb S σ H1 _ (sl.same s1) fun u H2 s2 g2 => by cases g1; cases g2; exact ⟨i, j, rfl, rfl, q _ H2 (s1.trans s2) (.int _)⟩)
theorem d_addI {i j : Int} (ha : ED X ρ a (.int i)) (hb : ED X ρ b (.int j)) : ED X ρ (.BinOp a .Add b pos) (.int (i + j)) := fun S σ H Q sl q =>
  e_addI (ha S σ H _ sl fun v H1 s1 g1 => hb S σ H1 _ (sl.same s1) fun u H2 s2 g2 => by cases g1; cases g2; exact ⟨i, j, rfl, rfl, q _ H2 (s1.trans s2) (.int _)⟩)
theorem nb {b : Bool} (h : (!b) = true) : b = false := by cases b with | false => rfl | true => cases h
theorem nb' {b : Bool} (h : (!b) = false) : b = true := by cases b with | true => rfl | false => cases h
/-- the labels: [x[i] for x in a tuple] -/
theorem labs_data {d : PyData} {i : Nat} (h : ∀ x ∈ els d, ∃ z, at' x i = .str z) : (els d).map (fun x => at' x i) = (labs d i).map PyData.str := by
  unfold labs
  rw [List.map_map]
  refine List.map_congr_left fun x hx => ?_
  obtain ⟨z, e⟩ := h x hx
  show at' x i = PyData.str (My.strOf (at' x i))
  rw [e]; rfl
theorem FnOk.up {P : Program} {w : World} {K : PySem.W.Frag} {mg : Str → Option Value} {base : Heap} {k k' : Nat} {f : Addr} {fd : FuncData} {ps : List Str} {sp : Sp} (h : FnOk P w K mg base CX0 k f fd ps sp) (l : k ≤ k') : FnOk P w K mg base CX0 k' f fd ps sp :=
  ⟨h.len, fun B out s H ar us vs Q E r e b v q => h.run B out s H ar us vs Q E (r.mono l) e b v q⟩
end
end My

namespace My
open PySem PySem.Spec PyProof.Rows L2
def cutD (ds : List PyData) (lo hi : Option Int) : List PyData := (ds.drop (HT.sIx ds.length 0 lo)).take (HT.sIx ds.length ds.length hi - HT.sIx ds.length 0 lo)
theorem DGs.takeG {S : Addr → Prop} {H : Hp} : ∀ {vs : List V} {ds : List PyData} (n : Nat), DGs S H vs ds → DGs S H (vs.take n) (ds.take n)
  | _, _, 0, _ => by simp only [List.take_zero]; exact .nil
  | _, _, _ + 1, .nil => .nil
  | _, _, n + 1, .cons h hs => .cons h (hs.takeG n)
theorem DGs.dropG {S : Addr → Prop} {H : Hp} : ∀ {vs : List V} {ds : List PyData} (n : Nat), DGs S H vs ds → DGs S H (vs.drop n) (ds.drop n)
  | _, _, 0, h => h
  | _, _, _ + 1, .nil => .nil
  | _, _, n + 1, .cons _ hs => hs.dropG n
theorem DGs.cut {S : Addr → Prop} {H : Hp} {vs : List V} {ds : List PyData} (h : DGs S H vs ds) (lo hi : Option Int) : DGs S H (cutV vs lo hi) (cutD ds lo hi) := by
  unfold cutV cutD
  rw [← h.length]
  exact (h.dropG _).takeG _
theorem cut_whole {ds : List PyData} {lo hi : Option Int} (h : HT.sIx ds.length 0 lo = 0 ∧ HT.sIx ds.length ds.length hi = ds.length) : cutD ds lo hi = ds := by
  unfold cutD
  rw [h.1, h.2, Nat.sub_zero, List.drop_zero, List.take_length]
section
variable {X : Cx} {ρ : Rho} {a b c e lo hi : Expr} {es rest : List Expr} {d d1 d2 : PyData} {ds ds2 : List PyData} {pos p p2 p3 pc pt : Pos} {x y : Str} {k m : Bool} {st : Stmt} {l l1 l2 : List Stmt}
theorem slT_end {S : Addr → Prop} {H H2 : Hp} {Q : VK} {v : V} {lo hi : Option Int} (s1 : Same H H2) (g1 : DG S H2 v (.tuple ds)) (q : ∀ v H', Same H H' → DG S H' v (.tuple (cutD ds lo hi)) → Q v H') : rSlA X.K v lo hi H2 Q := by
  obtain ⟨a, xs, rfl, ha, hs, sq⟩ := g1.seq (K := X.K)
  refine ⟨a, xs, rfl, sq, fun hw => ?_, fun _ p hp => q _ _ (s1.trans (same_new hp)) (.tup upd_same ((hs.cut lo hi).same (same_new hp)))⟩
  rw [hs.length] at hw
  refine q _ H2 s1 ?_
  rw [cut_whole hw]
  exact .tup ha hs
theorem d_slFrom {i : Int} (h : ED X ρ e (.tuple ds)) (h1 : ED X ρ lo (.int i)) : ED X ρ (.Subscript e (.Slice (some lo) none none p2) pos) (.tuple (cutD ds (some i) none)) := fun S σ H Q sl q =>
  toE (pe_slice sl_tupA pE (po_some pE) po_none) (h S σ H _ sl fun v H1 s1 g1 => h1 S σ H1 _ (sl.same s1) fun u H2 s2 g2 => by cases g2; exact ⟨i, rfl, slT_end (s1.trans s2) (g1.same s2) q⟩)
theorem d_slTo {i : Int} (h : ED X ρ e (.tuple ds)) (h1 : ED X ρ hi (.int i)) : ED X ρ (.Subscript e (.Slice none (some hi) none p2) pos) (.tuple (cutD ds none (some i))) := fun S σ H Q sl q =>
  toE (pe_slice sl_tupA pE po_none (po_some pE)) (h S σ H _ sl fun v H1 s1 g1 => h1 S σ H1 _ (sl.same s1) fun u H2 s2 g2 => by cases g2; exact ⟨i, rfl, slT_end (s1.trans s2) (g1.same s2) q⟩)
theorem d_sl2 {i j : Int} (h : ED X ρ e (.tuple ds)) (h1 : ED X ρ lo (.int i)) (h2 : ED X ρ hi (.int j)) : ED X ρ (.Subscript e (.Slice (some lo) (some hi) none p2) pos) (.tuple (cutD ds (some i) (some j))) := fun S σ H Q sl q =>
  toE (pe_slice sl_tupA pE (po_some pE) (po_some pE)) (h S σ H _ sl fun v H1 s1 g1 => h1 S σ H1 _ (sl.same s1) fun u H2 s2 g2 => by
    cases g2
    exact ⟨i, rfl, h2 S σ H2 _ (sl.same (s1.trans s2)) fun u2 H3 s3 g3 => by cases g3; exact ⟨j, rfl, slT_end (s1.trans (s2.trans s3)) ((g1.same s2).same s3) q⟩⟩)
/-! not in -/
theorem o_notInS : OpR X (compareOp .NotIn) (rP fun d e b => ∃ (z : Str) (zs : List Str), d = .str z ∧ e = .tuple (zs.map PyData.str) ∧ b = !decide (z ∈ zs)) := fun pins s σ H x y v u Q I rx ry ⟨S, d, e, b, g1, g2, ⟨z, zs, e1, e2, e3⟩, q⟩ => by
  subst e1 e2 e3
  cases g1
  obtain ⟨a, xs, rfl, ha, hs, sq⟩ := g2.seq (K := X.K)
  rw [strsE hs] at sq
  refine op_notIn_seq pins s σ H _ _ v u Q I rx ry ⟨a, _, rfl, .inr sq, rfl, flat_strs' _, ?_⟩
  show Q (.bl (!inV (.str z) (zs.map V.str))) H
  rw [inV_strs]
  exact q
theorem o_notInI : OpR X (compareOp .NotIn) (rP fun d e b => ∃ (i : Int) (is : List Int), d = .int i ∧ e = .tuple (is.map PyData.int) ∧ b = !decide (i ∈ is)) := fun pins s σ H x y v u Q I rx ry ⟨S, d, e, b, g1, g2, ⟨i, is, e1, e2, e3⟩, q⟩ => by
  subst e1 e2 e3
  cases g1
  obtain ⟨a, xs, rfl, ha, hs, sq⟩ := g2.seq (K := X.K)
  have ex : ∀ {xs : List V} {is : List Int}, DGs S H xs (is.map PyData.int) → xs = is.map V.int ∧ (xs.all flatV) = true ∧ inV (.int i) xs = decide (i ∈ is) := fun {xs is} h => by
    induction is generalizing xs with
    | nil => cases h; exact ⟨rfl, rfl, rfl⟩
    | cons j is ih =>
      cases h with
      | cons h hs =>
        cases h
        obtain ⟨e1, e2, e3⟩ := ih hs
        refine ⟨by rw [e1]; rfl, by rw [List.all_cons, e2]; rfl, ?_⟩
        show ((eqV (.int j) (.int i)) || inV (.int i) _) = _
        rw [e3]
        apply Bool.eq_iff_iff.mpr
        rw [Bool.or_eq_true, decide_eq_true_eq, decide_eq_true_eq, List.mem_cons]
        have : eqV (.int j) (.int i) = true ↔ i = j := by
          show ((j == i) = true) ↔ i = j
          rw [beq_iff_eq]
          exact eq_comm
        rw [this]
  obtain ⟨e1, e2, e3⟩ := ex hs
  refine op_notIn_seq pins s σ H _ _ v u Q I rx ry ⟨a, _, rfl, .inr sq, rfl, e2, ?_⟩
  show Q (.bl (!inV (.int i) xs)) H
  rw [e3]
  exact q
/-- 'a' <= x <= 'z', texts -/
theorem d_btwS {i j o : Str} (ha : ED X ρ a (.str i)) (hb : ED X ρ b (.str j)) (hc : ED X ρ c (.str o)) (hm : lastMarks [.LtE, .LtE] [b, c] = false := by with_unfolding_all rfl) : ED X ρ (.Compare a [.LtE, .LtE] [b, c] pos) (.bool (!decide (lt j i) && !decide (lt o j))) := fun S σ H Q sl q =>
  e_btwS (ha S σ H _ sl fun v H1 s1 g1 => hb S σ H1 _ (sl.same s1) fun u H2 s2 g2 => by
    cases g1; cases g2
    refine ⟨i, j, rfl, rfl, fun h => hc S σ H2 _ (sl.same (s1.trans s2)) fun w H3 s3 g3 => ?_, fun h => ?_⟩
    · cases g3
      have h' : ¬ lt j i := h
      rw [decide_eq_false h', Bool.not_false, Bool.true_and] at q
      exact ⟨o, rfl, q _ H3 (s1.trans (s2.trans s3)) (.bl _)⟩
    · have h' : lt j i := h
      rw [decide_eq_true h', Bool.not_true, Bool.false_and] at q
      exact q _ H2 (s1.trans s2) (.bl _)) hm

section
variable {elt iter : Expr} {scope : Scope}
theorem d_allS {z : Str} (j : Nat) (g : Nat → Bool) (hm : X.mg "all" = none) (hN : X.N.Nodup) (okb : BlkOk X.N X.env.scope scope [(x, j)]) (h : ED X ρ iter (.str z)) (l : z.length ≤ 1000) (hel : ∀ c ∈ z.cps.toList, BD X scope (ρ.set j (some (.str ⟨#[c]⟩))) elt (.bool (g c)))
    (hg : ∀ (s : Shared) (H : Hp) (C : Addr) (cl : List (Str × Addr)) (fp : List Addr), PG (X.blk s H scope (compEnvC scope cl C X.env) fp) (.Name x pt) (gName j))
    (hgl : Gl X "all" := by rfl) (hc : X.calm = true := by rfl) (hs : ∀ z, foldedSetIterable iter X.env z = pure z := by intro _; rfl)
    (he : starEach [.ListComp elt [⟨.Name x pt, iter, [], 0⟩] scope pc] X.env = (false, eval (.ListComp elt [⟨.Name x pt, iter, [], 0⟩] scope pc) X.env) :: starEach [] X.env := by rfl) :
    ED X ρ (.Call (.Name "all" p) [.ListComp elt [⟨.Name x pt, iter, [], 0⟩] scope pc] [] pos) (.bool (z.cps.toList.all g)) := by
  have h1 := d_all hm ((d_lcS (pos := pc) j (fun c => .bool (g c)) hN okb h l hel hg hc hs).cast (by rw [show (fun c => PyData.bool (g c)) = PyData.bool ∘ g from rfl, ← List.map_map])) hgl hc he (p := p) (pos := pos)
  exact h1.cast (by rw [List.all_map]; rfl)
end
/-! defs that may ask a repr -/
theorem d_fnG {kk j : Nat} {f : PyData → Bool} (cF : CalG X.prog X.w X.K X.mg X.base kk x (spB f)) (hr : Room j X.A) (hG : X.A.guards = some []) (hk : kk ≤ j) (h : ED X ρ e d) (ok : okS d = true) (hg : Gl X x := by rfl)
    (hdb : (x == ("__debug__" : Str)) = false := by decide) (he : starEach [e] X.env = (false, eval e X.env) :: starEach [] X.env := by rfl) : ED X ρ (.Call (.Name x p) [e] [] pos) (.bool (f d)) := fun S σ H Q sl q =>
  e_cG cF hr hG hk (a_cons (h S σ H _ sl fun v H1 s1 g1 => a_nil ⟨S, v, d, rfl, g1, ok, fun H2 s2 => q _ H2 (s1.trans s2) (.bl _)⟩) he) hg hdb he rfl
theorem FnG.to {P : Program} {w : World} {K : PySem.W.Frag} {mg : Str → Option Value} {base : Heap} {k : Nat} {f : Addr} {fd : FuncData} {ps : List Str} {sp sp' : Sp} (h : FnG P w K mg base k f fd ps sp) (i : ∀ vs H Q E, sp' vs H Q E → sp vs H Q E) : FnG P w K mg base k f fd ps sp' :=
  ⟨fun vs H Q E q => h.len vs H Q E (i vs H Q E q), fun B out s H ar us vs Q E r g e b v q => h.go B out s H ar us vs Q E r g e b v (i vs H Q E q)⟩
theorem Fun.ok1G {P : Program} {w : World} {K : PySem.W.Frag} {mg : Str → Option Value} {base : Heap} {x qual : Str} {st : Stmt} {f : Addr} {fd : FuncData} {N : List Str} {y : Str} {k : Nat} {φ : PyData → Bool} (F : Fun K x qual st f fd) (S : FnScope N [y] (defScope st))
    (body : ∀ (cdv : Value) (B : Around) (out : List Env) (s : Shared) (H : Hp) (E : XK) (d : PyData), Room k (B.deeper (envOfC qual (defScope st) s.heap.objs.size f cdv)) → (B.deeper (envOfC qual (defScope st) s.heap.objs.size f cdv)).guards = some [] → okS d = true →
      LD (cxOf CX0 P w K mg base N qual (defScope st) f cdv B out s H E).nox (startD N [d]) (defBody st) (.ret (.bool (φ d)))) : FnG P w K mg base (k + 1) f fd [y] (spB φ) :=
  FnG.to (Fun.okDG (Fn := F1 φ) F S F1_len fun cdv B out s H E ds r hr hG h => by
    obtain ⟨d, rfl, hk, rfl⟩ := F1_inv h
    exact body cdv B out s H E d hr hG hk) fun vs H Q E h => spB_D' h
end


theorem shaped_listS {zs : List Str} (h : zs.all valS = true) : SeqAt.shaped (.list (zs.map PyData.str)) = true := by
  show (PyData.canLayAll0 (zs.map PyData.str) && decide (PyData.depthAll (zs.map PyData.str) + 1 ≤ 64)) = true
  rw [lay_strs h, depth_strs]
  rfl
theorem eqvL_strs (zs ys : List Str) : PyData.eqv (.list (zs.map PyData.str)) (.list (ys.map PyData.str)) = decide (zs = ys) := eqv_strs zs ys
theorem eqvT_strs (zs ys : List Str) : PyData.eqv (.tuple (zs.map PyData.str)) (.tuple (ys.map PyData.str)) = decide (zs = ys) := eqv_strs zs ys
/-! ### which data have the text of a word -/
theorem rt_fold (q : Nat) : ∀ (l : List Nat) (acc : Array Nat), (l.foldl (fun out c => out ++ (Builtin.Str.reprChar q c).toArray) acc).toList = acc.toList ++ l.flatMap (Builtin.Str.reprChar q)
  | [], acc => by simp
  | c :: l, acc => by
    rw [List.foldl_cons, rt_fold q l, Array.toList_append, List.flatMap_cons, List.append_assoc]
theorem rt_codes (z : Str) : (reprText z).cps.toList = reprQuote z :: (z.cps.toList.flatMap (Builtin.Str.reprChar (reprQuote z)) ++ [reprQuote z]) := by
  unfold reprText
  show ((z.cps.foldl (fun out c => out ++ (Builtin.Str.reprChar (reprQuote z) c).toArray) #[reprQuote z]).push (reprQuote z)).toList = _
  rw [Array.toList_push, ← Array.foldl_toList, rt_fold]
  rfl
theorem rc_or (c : Nat) : Builtin.Str.reprChar 39 c = [c] ∨ 92 ∈ Builtin.Str.reprChar 39 c := by
  unfold Builtin.Str.reprChar
  dsimp only
  split
  · exact .inr (by simp)
  · split
    · exact .inr (by simp)
    · split
      · exact .inr (by simp)
      · split
        · exact .inr (by simp)
        · split
          · exact .inl rfl
          · split
            · exact .inr (by simp)
            · split
              · exact .inr (by simp)
              · exact .inr (by simp)
theorem rc_low : ∀ c, 97 ≤ c → c ≤ 122 → Builtin.Str.reprChar 39 c = [c] := by
  have h : ∀ k, k < 26 → Builtin.Str.reprChar 39 (97 + k) = [97 + k] := by decide +kernel
  intro c h1 h2
  have := h (c - 97) (by omega)
  rwa [show 97 + (c - 97) = c by omega] at this
theorem flat_id (f : Nat → List Nat) : ∀ l : List Nat, (∀ c ∈ l, f c = [c]) → l.flatMap f = l
  | [], _ => rfl
  | c :: l, h => by
    rw [List.flatMap_cons, h c List.mem_cons_self, flat_id f l fun x hx => h x (List.mem_cons_of_mem _ hx)]
    rfl
def lowB (w : Str) : Bool := w.cps.toList.all fun c => decide (97 ≤ c) && decide (c ≤ 122)
theorem rt_low {w : Str} (h : lowB w = true) : (reprText w).cps.toList = 39 :: (w.cps.toList ++ [39]) := by
  have hw : ∀ c ∈ w.cps.toList, 97 ≤ c ∧ c ≤ 122 := fun c hc => by
    have := List.all_eq_true.mp h c hc
    rwa [Bool.and_eq_true, decide_eq_true_eq, decide_eq_true_eq] at this
  have q : reprQuote w = 39 := by
    unfold reprQuote
    have : w.cps.contains 39 = false := by
      cases e : w.cps.contains 39 with
      | false => rfl
      | true =>
        have m := Array.contains_iff.mp e
        have := hw 39 (Array.mem_toList_iff.mpr m)
        omega
    rw [this]; rfl
  rw [rt_codes, q, flat_id _ _ fun c hc => rc_low c (hw c hc).1 (hw c hc).2]
theorem head_cat (a : Nat) (x y : Str) (h : x.cps.toList.head? = some a) : (x ++ y).cps.toList.head? = some a := by
  rw [str_cat]
  cases e : x.cps.toList with
  | nil => rw [e] at h; cases h
  | cons b l => rw [e] at h; exact h
theorem shown_head {d : PyData} (hd : okE d = true) (h : isStr d = false) : d.shown.cps.toList.head? ≠ some 39 := by
  match d, hd, h with
  | .none, _, _ => decide +kernel
  | .bool true, _, _ => decide +kernel
  | .bool false, _, _ => decide +kernel
  | .int i, hd, _ =>
    have h' : ((PyData.int i).showable && decide ((PyData.int i).shown.length ≤ 60) && decide ((PyData.int i).shown.cps.toList.head? ≠ some 39)) = true := hd
    rw [Bool.and_eq_true] at h'
    exact of_decide_eq_true h'.2
  | .list ds, _, _ =>
    intro e
    have e2 : (PyData.list ds).shown = listText (PyData.shownAll ds) := by simp only [PyData.shown]
    rw [e2, listText_eq_join, head_cat 91 _ _ (head_cat 91 _ _ (by decide +kernel))] at e
    cases e
  | .tuple ds, _, _ =>
    intro e
    have e2 : (PyData.tuple ds).shown = tupleText (PyData.shownAll ds) := by simp only [PyData.shown]
    rw [e2] at e
    unfold tupleText at e
    rw [head_cat 40 _ _ (head_cat 40 _ _ (by decide +kernel))] at e
    cases e
  | .dict kvs, _, _ =>
    intro e
    have e2 : (PyData.dict kvs).shown = dictText (PyData.shownKv kvs) := by simp only [PyData.shown]
    rw [e2] at e
    unfold dictText at e
    rw [head_cat 123 _ _ (head_cat 123 _ _ (by decide +kernel))] at e
    cases e
  | .str _, _, h => cases h
theorem shown_is {d : PyData} {w t : Str} (hd : okE d = true) (hw : lowB w = true) (ht : t = reprText w) : decide (d.shown = t) = eqS d w := by
  subst ht
  apply Bool.eq_iff_iff.mpr
  rw [decide_eq_true_eq]
  cases hs : isStr d with
  | false =>
    have e : eqS d w = false := by cases d <;> first | rfl | cases hs
    rw [e]
    refine ⟨fun h => ?_, fun h => by cases h⟩
    have := shown_head hd hs
    rw [h, rt_low hw] at this
    exact absurd rfl this
  | true =>
    cases d with
    | str z =>
      show reprText z = reprText w ↔ decide (z = w) = true
      rw [decide_eq_true_eq]
      refine ⟨fun h => ?_, fun h => by rw [h]⟩
      have h2 : (reprText z).cps.toList = (reprText w).cps.toList := by rw [h]
      rw [rt_low hw, rt_codes] at h2
      injection h2 with q h3
      rw [q] at h3
      have h4 := List.append_cancel_right h3
      have hall : ∀ c ∈ z.cps.toList, Builtin.Str.reprChar 39 c = [c] := fun c hc => by
        rcases rc_or c with e | e
        · exact e
        · exfalso
          have m : 92 ∈ w.cps.toList := by rw [← h4]; exact List.mem_flatMap.mpr ⟨c, hc, e⟩
          have := List.all_eq_true.mp hw 92 m
          simp at this
      rw [flat_id _ _ hall] at h4
      exact str_ext h4
    | _ => cases hs
end My

namespace My
open PySem PySem.Spec PyProof.Rows L2
def lenB (d : PyData) : Bool := isStr d && (decide (1 ≤ (My.strOf d).length) && decide ((My.strOf d).length ≤ 8))
theorem isStr_eq {d : PyData} (h : isStr d = true) : d = .str (My.strOf d) := by cases d <;> first | rfl | cases h
theorem dec_le (a b : Nat) : decide ((a : Int) ≤ (b : Int)) = decide (a ≤ b) := by
  apply Bool.eq_iff_iff.mpr
  rw [decide_eq_true_eq, decide_eq_true_eq]
  exact Int.ofNat_le
theorem valD_len (d : PyData) : valD d = (lenB d && (My.strOf d).cps.toList.all letB) := by
  cases d with
  | str z =>
    show (decide (1 ≤ z.length) && decide (z.length ≤ 8) && z.cps.toList.all letB) = ((true && (decide (1 ≤ z.length) && decide (z.length ≤ 8))) && z.cps.toList.all letB)
    rw [Bool.true_and]
  | _ => rfl
section
variable {X : Cx} {ρ : Rho} {a a2 b c e : Expr} {es rest : List Expr} {d d1 d2 : PyData} {ds ds2 : List PyData} {pos p p2 p3 pc pt : Pos} {x y : Str} {k m : Bool}
/-- not isinstance(x, str) or not 1 <= len(x) <= 8 -/
theorem wd_strB1 {j1 j2 q10 q11} (G : X.mg "isinstance" = none ∧ X.mg "str" = none ∧ X.mg "len" = none) (h : ED X ρ a d) (hB : ED X ρ a2 d) (ok : okS d = true) (hg : Gl X "isinstance" := by rfl) (hgT : Gl X "str" := by rfl) (hgl : Gl X "len" := by rfl) {q1 q2 q3 q4 q5 q6 q7 q8 : Pos}
    (he : starEach [a, .Name "str" q2] X.env = (false, eval a X.env) :: starEach [.Name "str" q2] X.env := by rfl) (he2 : starEach [a2] X.env = (false, eval a2 X.env) :: starEach [] X.env := by rfl)
    (hi1 : ∀ whole, isTrue (.Call (.Name "isinstance" q1) [a, .Name "str" q2] [] q3) X.env whole = (do let v ← whole; standAt q3; holding [v] (truthy v)) := by intro _; rfl)
    (hm : lastMarks [.LtE, .LtE] [.Call (.Name "len" q5) [a2] [] q6, .Constant (.int 8) j2 q11] = false := by with_unfolding_all rfl) :
    WD X ρ (.BoolOp .Or [.UnaryOp .Not (.Call (.Name "isinstance" q1) [a, .Name "str" q2] [] q3) q4, .UnaryOp .Not (.Compare (.Constant (.int 1) j1 q10) [.LtE, .LtE] [.Call (.Name "len" q5) [a2] [] q6, .Constant (.int 8) j2 q11] q7) q8] pos) (!lenB d) := by
  have e : (!lenB d) = (!isStr d || !(decide ((1 : Int) ≤ ((My.strOf d).length : Int)) && decide (((My.strOf d).length : Int) ≤ (8 : Int)))) := by
    unfold lenB
    rw [show decide ((1 : Int) ≤ ((My.strOf d).length : Int)) = decide (1 ≤ (My.strOf d).length) from dec_le 1 _, show decide (((My.strOf d).length : Int) ≤ (8 : Int)) = decide ((My.strOf d).length ≤ 8) from dec_le _ 8]
    cases isStr d <;> rfl
  rw [e]
  refine wd_or (td_not (td_val (d_isStr G.1 G.2.1 h hg hgT he) hi1)) fun ht => wd_or1 (td_not ?_)
  have hs := nb' ht
  have hz : (My.strOf d).length ≤ sizeLine := str_line (by rw [← isStr_eq hs]; exact ok)
  exact td_btw (d_int 1) (d_lenS G.2.2 hz (hB.cast (isStr_eq hs)) hgl he2) (fun _ => d_int 8) hm
theorem wd_strB {j1 j2 q10 q11} (G : X.mg "isinstance" = none ∧ X.mg "str" = none ∧ X.mg "len" = none) (h : ED X ρ a d) (hB : ED X ρ a2 d) (ok : okS d = true) (hr : lenB d = true → WD X ρ (.BoolOp .Or (b :: rest) pos) m) (hg : Gl X "isinstance" := by rfl) (hgT : Gl X "str" := by rfl) (hgl : Gl X "len" := by rfl) {q1 q2 q3 q4 q5 q6 q7 q8 : Pos}
    (he : starEach [a, .Name "str" q2] X.env = (false, eval a X.env) :: starEach [.Name "str" q2] X.env := by rfl) (he2 : starEach [a2] X.env = (false, eval a2 X.env) :: starEach [] X.env := by rfl)
    (hi1 : ∀ whole, isTrue (.Call (.Name "isinstance" q1) [a, .Name "str" q2] [] q3) X.env whole = (do let v ← whole; standAt q3; holding [v] (truthy v)) := by intro _; rfl)
    (hm : lastMarks [.LtE, .LtE] [.Call (.Name "len" q5) [a2] [] q6, .Constant (.int 8) j2 q11] = false := by with_unfolding_all rfl) :
    WD X ρ (.BoolOp .Or (.UnaryOp .Not (.Call (.Name "isinstance" q1) [a, .Name "str" q2] [] q3) q4 :: .UnaryOp .Not (.Compare (.Constant (.int 1) j1 q10) [.LtE, .LtE] [.Call (.Name "len" q5) [a2] [] q6, .Constant (.int 8) j2 q11] q7) q8 :: b :: rest) pos) (!lenB d || m) := by
  have e0 : lenB d = (isStr d && (decide ((1 : Int) ≤ ((My.strOf d).length : Int)) && decide (((My.strOf d).length : Int) ≤ (8 : Int)))) := by
    unfold lenB
    rw [show decide ((1 : Int) ≤ ((My.strOf d).length : Int)) = decide (1 ≤ (My.strOf d).length) from dec_le 1 _, show decide (((My.strOf d).length : Int) ≤ (8 : Int)) = decide ((My.strOf d).length ≤ 8) from dec_le _ 8]
  have e : (!lenB d || m) = (!isStr d || (!(decide ((1 : Int) ≤ ((My.strOf d).length : Int)) && decide (((My.strOf d).length : Int) ≤ (8 : Int))) || m)) := by
    rw [e0]
    cases isStr d <;> cases (decide ((1 : Int) ≤ ((My.strOf d).length : Int)) && decide (((My.strOf d).length : Int) ≤ (8 : Int))) <;> rfl
  rw [e]
  refine wd_or (td_not (td_val (d_isStr G.1 G.2.1 h hg hgT he) hi1)) fun ht => ?_
  have hs := nb' ht
  have hz : (My.strOf d).length ≤ sizeLine := str_line (by rw [← isStr_eq hs]; exact ok)
  exact wd_or (td_not (td_btw (d_int 1) (d_lenS G.2.2 hz (hB.cast (isStr_eq hs)) hgl he2) (fun _ => d_int 8) hm)) fun h2 => hr (by rw [e0, hs, nb' h2]; rfl)

section
variable {scope : Scope} {iter : Expr} {ja jz : _} {qa qb qc qd : Pos}
theorem d_letters (j : Nat) (hm : X.mg "all" = none) (hN : X.N.Nodup) (okb : BlkOk X.N X.env.scope scope [(x, j)]) (h : ED X ρ iter d) (hd : lenB d = true)
    (hel : ∀ c : Nat, BD X scope (ρ.set j (some (.str ⟨#[c]⟩))) (.Name x qb) (.str ⟨#[c]⟩))
    (hg : ∀ (s : Shared) (H : Hp) (C : Addr) (cl : List (Str × Addr)) (fp : List Addr), PG (X.blk s H scope (compEnvC scope cl C X.env) fp) (.Name x pt) (gName j))
    (hgl : Gl X "all" := by rfl) (hc : X.calm = true := by rfl) (hs : ∀ z, foldedSetIterable iter X.env z = pure z := by intro _; rfl)
    (he : starEach [.ListComp (.Compare (.Constant (.str "a") ja qa) [.LtE, .LtE] [.Name x qb, .Constant (.str "z") jz qc] qd) [⟨.Name x pt, iter, [], 0⟩] scope pc] X.env = (false, eval (.ListComp (.Compare (.Constant (.str "a") ja qa) [.LtE, .LtE] [.Name x qb, .Constant (.str "z") jz qc] qd) [⟨.Name x pt, iter, [], 0⟩] scope pc) X.env) :: starEach [] X.env := by rfl) :
    ED X ρ (.Call (.Name "all" p) [.ListComp (.Compare (.Constant (.str "a") ja qa) [.LtE, .LtE] [.Name x qb, .Constant (.str "z") jz qc] qd) [⟨.Name x pt, iter, [], 0⟩] scope pc] [] pos) (.bool ((My.strOf d).cps.toList.all letB)) := by
  have hs1 : isStr d = true := by unfold lenB at hd; rw [Bool.and_eq_true] at hd; exact hd.1
  have hl : (My.strOf d).length ≤ 8 := by unfold lenB at hd; rw [Bool.and_eq_true, Bool.and_eq_true] at hd; exact of_decide_eq_true hd.2.2
  refine d_allS j letB hm hN okb (h.cast (isStr_eq hs1)) (by omega) (fun c hc => ?_) hg hgl hc hs he
  intro s0 H00 C cl fp
  have e : letB c = (!decide (lt (⟨#[c]⟩ : Str) (Str.ofString "a")) && !decide (lt (Str.ofString "z") (⟨#[c]⟩ : Str))) := let_btw c
  rw [e]
  exact d_btwS (d_str _) (hel c s0 H00 C cl fp) (d_str _) (by with_unfolding_all rfl)
end
end
theorem SD.cast {X : Cx} {ρ : Rho} {st : Stmt} {o o' : Out} (h : SD X ρ st o) (e : o = o') : SD X ρ st o' := e ▸ h
section
variable {X : Cx} {ρ : Rho} {iter elt : Expr} {ds : List PyData} {pos spos py pt : Pos} {x y : Str} {scope : Scope}
theorem lcT_core (j : Nat) (f : PyData → PyData) {S : Addr → Prop} {σ : L2.St} {H : Hp} {Kq : Addr → Hp → Prop} (h : ED X ρ iter (.tuple ds)) (l : ds.length ≤ 1000) (hel : ∀ d ∈ ds, BD X scope (ρ.set j (some d)) elt (f d)) (sl : SL S H σ ρ) (q : ∀ Dn H', Same H H' → DG S H' (.ref Dn) (.list (ds.map f)) → Kq Dn H') :
    WE X iter σ H fun v H1 => ∃ a xs, v = .ref a ∧ SqT X.K H1 a xs ∧ ∀ D, H1 D = none → ∃ Pv : Nat → Hp → Prop, Pv 0 (L2.upd H1 D (.lst [])) ∧ (∀ i H, i ≤ xs.length → Pv i H → SqT X.K H a xs) ∧
      (∀ i y H, xs[i]? = some y → Pv i H → WB X scope elt ((L2.wipe σ [j]).set j (some y)) H fun z H4 => ∃ acc, H4 D = some (.lst acc) ∧ acc.length < sizeLine ∧ Pv (i + 1) (L2.upd H4 D (.lst (acc ++ [z])))) ∧ ∀ H, Pv xs.length H → Kq D H := by
  refine h S σ H _ sl fun v H1 s1 g1 => ?_
  obtain ⟨a, xs, rfl, ha, hds, sq⟩ := g1.seq (K := X.K)
  refine ⟨a, xs, rfl, sq, fun D nD => ?_⟩
  have sl1 := sl.same s1
  have slD := sl1.and1 (o := .lst []) nD
  have hdsD := hds.mono (T := And1 S D) (My.Same.tups (same_new (o := .lst []) nD)) fun a u n e => ⟨fun z => z.elim n fun z => (by rw [z, nD] at e; cases e), by rw [upd_ne (ne_of_none e nD)]; exact e⟩
  have lx := hds.length
  refine ⟨fun i H' => ∃ ys, (∀ b o, b ≠ D → (L2.upd H1 D (.lst [])) b = some o → H' b = some o) ∧ H' D = some (.lst ys) ∧ ys.length = i ∧ DGs (And1 S D) H' ys ((ds.take i).map f), ?_, ?_, ?_, ?_⟩
  · exact ⟨[], fun b o _ e => e, upd_same, rfl, .nil⟩
  · rintro i H' _ ⟨ys, k1, _⟩
    exact .inl (.inl (k1 a _ (ne_of_none ha nD) (same_new nD _ _ ha)))
  · rintro i y H' hi ⟨ys, k1, k2, k3, k4⟩ s0 H00 C cl fp
    obtain ⟨d, hd, hy⟩ := hdsD.get hi
    have keep : ∀ {v : V} {d : PyData}, DG (And1 S D) (L2.upd H1 D (.lst [])) v d → DG (And1 S D) H' v d := fun g => g.mono (fun b xs e => k1 b _ (ne_of e upd_same (fun z => by cases z)) e) fun a o n e => ⟨n, k1 a o (fun z => n (.inr z)) e⟩
    have slp : SL (And1 S D) H' σ ρ := ⟨fun b z w => by
      cases e : (L2.upd H1 D (.lst [])) b with
      | none => exact slD.dom b z e
      | some o =>
        by_cases bD : b = D
        · rw [bD, k2] at w; cases w
        · (rw [k1 b o bD e] at w; cases w), fun i d q => let ⟨v, a, b⟩ := slD.look i d q; ⟨v, a, keep b⟩, slD.len⟩
    have sl2 := SL.set (i := j) slp (keep hy)
    have ew : (L2.wipe σ [j]).set j (some y) = σ.set j (some y) := by show (σ.set j none).set j (some y) = _; rw [List.set_set]
    rw [ew]
    refine hel d (List.mem_of_getElem? hd) s0 H00 C cl fp (And1 S D) _ H' _ sl2 fun z H4 s4 g4 => ?_
    have h4 := s4 _ _ k2
    refine ⟨ys, h4, by rw [k3]; exact Nat.lt_of_lt_of_le (show i < 1001 by have := (List.getElem?_eq_some_iff.mp hd).1; omega) (by decide), ys ++ [z], fun b o n e => ?_, upd_same, by rw [List.length_append, k3]; rfl, ?_⟩
    · rw [upd_ne n]; exact s4 _ _ (k1 b o n e)
    · have lt : i < ds.length := (List.getElem?_eq_some_iff.mp hd).1
      have e : ds[i] = d := by rw [List.getElem?_eq_getElem lt] at hd; exact Option.some.inj hd
      rw [List.take_succ_eq_append_getElem lt, List.map_append, e]
      exact ((k4.same s4).append (.cons g4 .nil)).put h4
  · rintro H' ⟨ys, k1, k2, k3, k4⟩
    rw [lx, List.take_length] at k4
    refine q D H' (s1.trans fun b o e => k1 b o (ne_of_none e nD) (same_new nD b o e)) (.lst k2 (fun z => sl1.dom D z nD) k4.un1)
/-- y = [elt for x in iter] as a statement -/
theorem sd_lcT (i j : Nat) (f : PyData → PyData) (hN : X.N.Nodup) (okb : BlkOk X.N X.env.scope scope [(x, j)]) (h : ED X ρ iter (.tuple ds)) (l : ds.length ≤ 1000) (hel : ∀ d ∈ ds, BD X scope (ρ.set j (some d)) elt (f d))
    (hg : ∀ (s : Shared) (H : Hp) (C : Addr) (cl : List (Str × Addr)) (fp : List Addr), PG (X.blk s H scope (compEnvC scope cl C X.env) fp) (.Name x pt) (gName j))
    (hsw : swapsWith (.ListComp elt [⟨.Name x pt, iter, [], 0⟩] scope pos) (some (.Name y py)) spos.line X.env = pure true) (hy : X.N[i]? = some y := by rfl) (hyl : X.env.scope.names.lookup y = some .local := by rfl)
    (hc : X.calm = true := by rfl) (hs : ∀ z, foldedSetIterable iter X.env z = pure z := by intro _; rfl) : SD X ρ (.Assign [.Name y py] (.ListComp elt [⟨.Name x pt, iter, [], 0⟩] scope pos) spos) (.nx (ρ.set i (some (.list (ds.map f))))) := fun S σ H D sl q =>
  toS (ps_setLc (own := [(x, j)]) (te := WB X scope elt) hc hN hy hyl hsw (pi_tup pE) okb hg (fun _ _ _ _ _ => pts_nil) (fun s H0 C cl fp => ⟨fun pins s' σ' H' Q' I q => (q s H0 C cl fp).go pins s' I⟩) hs)
    (WE.mono (lcT_core j f h l hel sl (Kq := fun Dn H' => D.nx (σ.set i (some (.ref Dn))) H') fun Dn H' s g => q _ H' s ((sl.same s).set g)) fun v H1 ⟨a, xs, e, hS, k⟩ => ⟨a, e, ⟨xs, hS⟩, fun Dn nD => by
      obtain ⟨Pv, p0, pl, ps, pd⟩ := k Dn nD
      exact lc_tup (g := gName j) (tt := tYes) (te := WB X scope elt) (vs := [j]) (σ := σ) Pv p0 pl (fun i y H hi p => ⟨set_wipe σ j y, ps i y H hi p⟩) pd⟩)
end
end My

namespace My
open PySem PySem.Spec PyProof.Rows L2
section
variable {X : Cx} {o : Expr} {σ : L2.St} {H : Hp} {Q : VK} {pos apos : Pos}
/-- o.isascii(), o.isalpha(), o.islower() of a text -/
theorem e_isascii (h : WE X o σ H fun x H1 => ∃ z, x = .str z ∧ Q (.bl (Txt.isascii z)) H1)
    (hbase : attributeBase o "isascii" X.env (eval o X.env) = eval o X.env := by rfl) (hline : (apos.endLine == pos.line) = true := by rfl) : WE X (.Call (.Attribute o "isascii" apos) [] [] pos) σ H Q :=
  toE (pe_bm0 PySem.F.plainAttrs_str PySem.F.slot_str_isascii PySem.F.type_str_isascii mt_isascii pE hbase hline) (WE.mono h fun x H1 ⟨z, e, q⟩ => by
    subst e
    exact ⟨rfl, z, rfl, rfl, trivial, q⟩)
theorem e_isalpha (h : WE X o σ H fun x H1 => ∃ z, x = .str z ∧ Q (.bl (Txt.isalpha z)) H1)
    (hbase : attributeBase o "isalpha" X.env (eval o X.env) = eval o X.env := by rfl) (hline : (apos.endLine == pos.line) = true := by rfl) : WE X (.Call (.Attribute o "isalpha" apos) [] [] pos) σ H Q :=
  toE (pe_bm0 PySem.F.plainAttrs_str PySem.F.slot_str_isalpha PySem.F.type_str_isalpha mt_isalpha pE hbase hline) (WE.mono h fun x H1 ⟨z, e, q⟩ => by
    subst e
    exact ⟨rfl, z, rfl, rfl, trivial, q⟩)
theorem e_islower (h : WE X o σ H fun x H1 => ∃ z, x = .str z ∧ Q (.bl (Txt.islower z)) H1)
    (hbase : attributeBase o "islower" X.env (eval o X.env) = eval o X.env := by rfl) (hline : (apos.endLine == pos.line) = true := by rfl) : WE X (.Call (.Attribute o "islower" apos) [] [] pos) σ H Q :=
  toE (pe_bm0 PySem.F.plainAttrs_str PySem.F.slot_str_islower PySem.F.type_str_islower mt_islower pE hbase hline) (WE.mono h fun x H1 ⟨z, e, q⟩ => by
    subst e
    exact ⟨rfl, z, rfl, rfl, trivial, q⟩)
end
def lowC (c : Nat) : Bool := decide (c ∈ ("abcdefghijklmnopqrstuvwxyz" : Str).cps.toList)
theorem lowC_1 : ∀ c < 128, (Unicode.isAlpha c && !(Unicode.isUpper c || Unicode.isTitle c)) = lowC c := by decide +kernel
theorem lowC_2 : ∀ c < 128, lowC c = true → Unicode.isLower c = true := by decide +kernel
theorem lowC_3 (c : Nat) (h : lowC c = true) : c < 128 := by
  have h' : c ∈ ("abcdefghijklmnopqrstuvwxyz" : Str).cps.toList := of_decide_eq_true h
  have : ∀ x ∈ ("abcdefghijklmnopqrstuvwxyz" : Str).cps.toList, x < 128 := by decide +kernel
  exact this c h'
/-- lowercase letters alone, and one at least -/
theorem low_eq (z : Str) : (Txt.isascii z && (Txt.isalpha z && Txt.islower z)) = (decide (1 ≤ z.length) && z.cps.toList.all lowC) := by
  have e1 : Txt.isascii z = z.cps.toList.all fun c => decide (c < 128) := by rw [Array.all_toList]; rfl
  have e2 : Txt.isalpha z = (decide (1 ≤ z.length) && z.cps.toList.all Unicode.isAlpha) := by rw [Array.all_toList]; rfl
  have e3 : Txt.islower z = (z.cps.toList.any Unicode.isLower && !z.cps.toList.any fun c => Unicode.isUpper c || Unicode.isTitle c) := by rw [Array.any_toList, Array.any_toList]; rfl
  have el : z.length = z.cps.toList.length := rfl
  rw [e1, e2, e3, el]
  generalize z.cps.toList = l
  apply Bool.eq_iff_iff.mpr
  simp only [Bool.and_eq_true, decide_eq_true_eq, List.all_eq_true, Bool.not_eq_true', List.any_eq_true]
  constructor
  · rintro ⟨h1, ⟨h2, h3⟩, _, h5⟩
    refine ⟨h2, fun c hc => ?_⟩
    rw [← lowC_1 c (h1 c hc), h3 c hc, Bool.true_and]
    have := List.any_eq_false.mp h5 c hc
    simpa using this
  · rintro ⟨h1, h2⟩
    have k : ∀ c ∈ l, (Unicode.isAlpha c && !(Unicode.isUpper c || Unicode.isTitle c)) = true := fun c hc => by rw [lowC_1 c (lowC_3 c (h2 c hc))]; exact h2 c hc
    refine ⟨fun c hc => lowC_3 c (h2 c hc), ⟨h1, fun c hc => ?_⟩, ?_, ?_⟩
    · have := k c hc; rw [Bool.and_eq_true] at this; exact this.1
    · cases l with
      | nil => simp at h1
      | cons c r => exact ⟨c, List.mem_cons_self .., lowC_2 c (lowC_3 c (h2 c (List.mem_cons_self ..))) (h2 c (List.mem_cons_self ..))⟩
    · apply List.any_eq_false.mpr
      intro c hc
      have := k c hc; rw [Bool.and_eq_true] at this; simpa using this.2
end My

namespace My
open PySem PySem.Spec PyProof.Rows L2
/-! ### a dict of the top with text keys -/
theorem keyZ_str {e : DictEntry} {x : Str} (h : keyZ e = some x) : ∃ t, e.key = .str x t := by
  unfold keyZ at h
  split at h
  · rename_i y t q
    cases h
    exact ⟨t, q⟩
  · cases h
theorem find_keys (z : Str) : ∀ (l : List DictEntry) (zs : List Str), l.map keyZ = zs.map some → (l.find? (·.key.isStr z)).isSome = decide (z ∈ zs) ∧ l.any (·.refKey) = false
  | [], [], _ => ⟨rfl, rfl⟩
  | [], _ :: _, h => by cases h
  | _ :: _, [], h => by cases h
  | e :: l, x :: zs, h => by
    have h' : keyZ e :: l.map keyZ = some x :: zs.map some := h
    injection h' with h1 h2
    obtain ⟨i1, i2⟩ := find_keys z l zs h2
    obtain ⟨t, q⟩ := keyZ_str h1
    constructor
    · by_cases hx : x = z
      · have b : e.key.isStr z = true := by rw [q]; exact beq_iff_eq.mpr hx
        rw [List.find?_cons_of_pos (p := fun d : DictEntry => d.key.isStr z) b]
        exact (decide_eq_true (by rw [hx]; exact List.mem_cons_self)).symm
      · have b : ¬ e.key.isStr z = true := by rw [q]; exact fun c => hx (beq_iff_eq.mp c)
        rw [List.find?_cons_of_neg (p := fun d : DictEntry => d.key.isStr z) b, i1]
        apply Bool.eq_iff_iff.mpr
        rw [decide_eq_true_eq, decide_eq_true_eq, List.mem_cons]
        exact ⟨.inr, fun c => c.elim (fun c => absurd c.symm hx) id⟩
    · rw [List.any_cons, i2, Bool.or_false]
      unfold DictEntry.refKey
      rw [q]
theorem KSt.ns {w : World} {K : PySem.W.Frag} {a : Addr} {zs : List Str} (h : KSt w K a zs) (z : Str) : ∃ es n, KDict K w a es n ∧ ∃ r, PySem.W.nsIn K a z = some r ∧ r.isSome = decide (z ∈ zs) := by
  obtain ⟨es, n, D, hk⟩ := h.ex
  obtain ⟨f1, f2⟩ := find_keys z es.toList zs hk
  refine ⟨es, n, D, ?_⟩
  unfold PySem.W.nsIn
  rw [D.at_]
  dsimp only
  cases q : es.toList.find? (·.key.isStr z) with
  | none =>
    rw [q] at f1
    exact ⟨none, by rw [f2]; rfl, f1⟩
  | some e =>
    rw [q] at f1
    exact ⟨some e.val, rfl, f1⟩
section
variable {X : Cx} {ρ : Rho} {a a2 b c e o : Expr} {es rest : List Expr} {d d1 d2 : PyData} {ds ds2 : List PyData} {pos apos p p2 p3 pc pt : Pos} {x y : Str} {k m : Bool}
/-- x not in R, x in R: a dict of the top -/
theorem d_notInK {z : Str} {zs : List Str} (hR : ∃ aR, X.mg x = some (.ref aR) ∧ KSt X.w X.K aR zs) (h : ED X ρ a (.str z)) (hg : Gl X x := by rfl) (hd : (x == ("__debug__" : Str)) = false := by decide) : ED X ρ (.Compare a [.NotIn] [.Name x p] pos) (.bool (!decide (z ∈ zs))) := fun S σ H Q sl q => by
  obtain ⟨aR, hm, hK⟩ := hR
  obtain ⟨es, n, D, r, hr, hs⟩ := hK.ns z
  refine e_cmp (op_notIn_kd D) (h S σ H _ sl fun v H1 s1 g1 => ?_) (by first | exact nomark _ | rfl)
  cases g1
  exact e_glob (v := .ref aR) hm rfl ⟨z, r, rfl, rfl, hr, by rw [hs]; exact q _ H1 s1 (.bl _)⟩ hg hd
theorem td_inK {z : Str} {zs : List Str} (hR : ∃ aR, X.mg x = some (.ref aR) ∧ KSt X.w X.K aR zs) (h : ED X ρ a (.str z)) (hg : Gl X x := by rfl) (hd : (x == ("__debug__" : Str)) = false := by decide) : TD X ρ (.Compare a [.In] [.Name x p] pos) (decide (z ∈ zs)) := fun S σ H Q sl q => by
  obtain ⟨aR, hm, hK⟩ := hR
  obtain ⟨es, n, D, r, hr, hs⟩ := hK.ns z
  refine t_cmp (op_in_kd D) (h S σ H _ sl fun v H1 s1 g1 => ?_) (by first | exact nomark _ | rfl)
  cases g1
  exact e_glob (v := .ref aR) hm rfl ⟨z, r, rfl, rfl, hr, _, rfl, by rw [hs]; exact q H1 s1⟩ hg hd
theorem td_notInK {z : Str} {zs : List Str} (hR : ∃ aR, X.mg x = some (.ref aR) ∧ KSt X.w X.K aR zs) (h : ED X ρ a (.str z)) (hg : Gl X x := by rfl) (hd : (x == ("__debug__" : Str)) = false := by decide) : TD X ρ (.Compare a [.NotIn] [.Name x p] pos) (!decide (z ∈ zs)) := fun S σ H Q sl q => by
  obtain ⟨aR, hm, hK⟩ := hR
  obtain ⟨es, n, D, r, hr, hs⟩ := hK.ns z
  refine t_cmp (op_notIn_kd D) (h S σ H _ sl fun v H1 s1 g1 => ?_) (by first | exact nomark _ | rfl)
  cases g1
  exact e_glob (v := .ref aR) hm rfl ⟨z, r, rfl, rfl, hr, _, rfl, by rw [hs]; exact q H1 s1⟩ hg hd
/-! texts: isascii, isalpha, islower; <= -/
theorem d_isascii {z : Str} (h : ED X ρ o (.str z)) (hbase : attributeBase o "isascii" X.env (eval o X.env) = eval o X.env := by rfl) (hline : (apos.endLine == pos.line) = true := by rfl) : ED X ρ (.Call (.Attribute o "isascii" apos) [] [] pos) (.bool (Txt.isascii z)) := fun S σ H Q sl q =>
  e_isascii (h S σ H _ sl fun v H1 s1 g1 => by cases g1; exact ⟨z, rfl, q _ H1 s1 (.bl _)⟩) hbase hline
theorem d_isalpha {z : Str} (h : ED X ρ o (.str z)) (hbase : attributeBase o "isalpha" X.env (eval o X.env) = eval o X.env := by rfl) (hline : (apos.endLine == pos.line) = true := by rfl) : ED X ρ (.Call (.Attribute o "isalpha" apos) [] [] pos) (.bool (Txt.isalpha z)) := fun S σ H Q sl q =>
  e_isalpha (h S σ H _ sl fun v H1 s1 g1 => by cases g1; exact ⟨z, rfl, q _ H1 s1 (.bl _)⟩) hbase hline
theorem d_islower {z : Str} (h : ED X ρ o (.str z)) (hbase : attributeBase o "islower" X.env (eval o X.env) = eval o X.env := by rfl) (hline : (apos.endLine == pos.line) = true := by rfl) : ED X ρ (.Call (.Attribute o "islower" apos) [] [] pos) (.bool (Txt.islower z)) := fun S σ H Q sl q =>
  e_islower (h S σ H _ sl fun v H1 s1 g1 => by cases g1; exact ⟨z, rfl, q _ H1 s1 (.bl _)⟩) hbase hline
theorem o_leS : OpR X (compareOp .LtE) (rP fun d e b => ∃ y z : Str, d = .str y ∧ e = .str z ∧ b = !decide (lt z y)) := fun pins s σ H x y v u Q I rx ry ⟨S, d, e, b, g1, g2, ⟨i, j, e1, e2, e3⟩, q⟩ => by
  subst e1 e2 e3
  cases g1; cases g2
  exact op_le_str pins s σ H _ _ v u Q I rx ry ⟨i, j, rfl, rfl, q⟩
/-- not isinstance(x, str) or len(x) > M -/
theorem wd_strM {M : Str} (G : X.mg "isinstance" = none ∧ X.mg "str" = none ∧ X.mg "len" = none) (hM : ∃ t, X.mg M = some (.int 8 t)) (h : ED X ρ a d) (hB : ED X ρ a2 d) (ok : okS d = true) (hg : Gl X "isinstance" := by rfl) (hgT : Gl X "str" := by rfl) (hgl : Gl X "len" := by rfl) (hgM : Gl X M := by rfl) (hdM : (M == ("__debug__" : Str)) = false := by decide) {q1 q2 q3 q4 q5 q6 q7 q8 : Pos}
    (he : starEach [a, .Name "str" q2] X.env = (false, eval a X.env) :: starEach [.Name "str" q2] X.env := by rfl) (he2 : starEach [a2] X.env = (false, eval a2 X.env) :: starEach [] X.env := by rfl)
    (hi1 : ∀ whole, isTrue (.Call (.Name "isinstance" q1) [a, .Name "str" q2] [] q3) X.env whole = (do let v ← whole; standAt q3; holding [v] (truthy v)) := by intro _; rfl) :
    WD X ρ (.BoolOp .Or [.UnaryOp .Not (.Call (.Name "isinstance" q1) [a, .Name "str" q2] [] q3) q4, .Compare (.Call (.Name "len" q5) [a2] [] q6) [.Gt] [.Name M q7] q8] pos) (!(isStr d && decide ((My.strOf d).length ≤ 8))) := by
  have e : (!(isStr d && decide ((My.strOf d).length ≤ 8))) = (!isStr d || decide ((8 : Int) < ((My.strOf d).length : Int))) := by
    have e1 : decide ((8 : Int) < ((My.strOf d).length : Int)) = !decide ((My.strOf d).length ≤ 8) := by
      apply Bool.eq_iff_iff.mpr
      rw [decide_eq_true_eq, Bool.not_eq_true', decide_eq_false_iff_not]
      omega
    rw [e1]
    cases isStr d <;> rfl
  rw [e]
  refine wd_or (td_not (td_val (d_isStr G.1 G.2.1 h hg hgT he) hi1)) fun ht => wd_or1 ?_
  have hs := nb' ht
  have hz : (My.strOf d).length ≤ sizeLine := str_line (by rw [← isStr_eq hs]; exact ok)
  exact td_cmp o_gt (d_lenS G.2.2 hz (hB.cast (isStr_eq hs)) hgl he2) (d_gint hM hgM hdM) ⟨_, _, rfl, rfl, rfl⟩ (by first | exact nomark _ | rfl)
end
/-! ### ascending, from a text on -/
def ascF : Str → List Str → Bool
  | _, [] => true
  | x, y :: r => !(!decide (lt x y)) && ascF y r
theorem ascF_cons (x : Str) : ∀ zs : List Str, ascF x zs = ascS (x :: zs)
  | [] => rfl
  | y :: r => by
    show (!(!decide (lt x y)) && ascF y r) = (decide (lt x y) && ascS (y :: r))
    rw [Bool.not_not, ascF_cons y r]
theorem empty_lt {z : Str} (h : 1 ≤ z.length) : lt Str.empty z := by
  have hl : 1 ≤ z.cps.toList.length := h
  show ([] : List Nat) < z.cps.toList
  cases e : z.cps.toList with
  | nil => rw [e] at hl; simp at hl
  | cons c r => exact List.nil_lt_cons c r
theorem ascF_empty : ∀ {zs : List Str}, (∀ z ∈ zs, 1 ≤ z.length) → ascF Str.empty zs = ascS zs
  | [], _ => rfl
  | z :: r, h => by
    show (!(!decide (lt Str.empty z)) && ascF z r) = _
    rw [decide_eq_true (empty_lt (h z List.mem_cons_self)), ascF_cons]
    rfl
theorem dic_mk {w : World} {K : PySem.W.Frag} {n : Str} {zs : List Str} {a : Addr} {oc : Value} {od : Option Addr} {es : Array DictEntry} {m : Nat} {osl : Array (Option Value)} (e : PySem.W.nsIn K mainGlobals n = some (some (.ref a))) (l : K.lookup a = some ⟨oc, od, .dict es m, osl⟩)
    (h1 : oc = .type "dict") (h2 : od = none) (h3 : osl = #[]) (hk : PySem.W.KeysLit w.params es.toList) (hl : (a == sysModules) = false) (hz : es.toList.map keyZ = zs.map some) : ∃ a, PySem.W.nsIn K mainGlobals n = some (some (.ref a)) ∧ KSt w K a zs := by
  subst h1 h2 h3
  exact ⟨a, e, ⟨⟨es, m, ⟨l, hk, hl⟩, hz⟩⟩⟩
/-! ### for x in a tuple: if not ..: return False; return True -/
section
variable {X : Cx} {ρ : Rho} {iter c : Expr} {ds : List PyData} {x : Str} {pos pt q1 q2 q3 q4 q5 : Pos} {j1 j2 : Nat}
theorem forD_all {j : Nat} {body : List Stmt} (g : PyData → Bool) (ρ : Rho) : ∀ (ds : List PyData) (ρ1 : Rho), (∀ d, ρ1.set j (some d) = ρ.set j (some d)) →
    (∀ d ∈ ds, g d = true → LD X (ρ.set j (some d)) body (.nx (ρ.set j (some d)))) → (∀ d ∈ ds, g d = false → LD X (ρ.set j (some d)) body (.ret (.bool false))) →
    (ds.all g = true → ∃ ρ2, ForD X j body ds ρ1 (.nx ρ2)) ∧ (ds.all g = false → ForD X j body ds ρ1 (.ret (.bool false)))
  | [], ρ1, _, _, _ => ⟨fun _ => ⟨ρ1, .done⟩, fun e => by cases e⟩
  | d :: ds, ρ1, h0, h1, h2 => by
    obtain ⟨i1, i2⟩ := forD_all g ρ ds (ρ.set j (some d)) (fun e => List.set_set ..) (fun e he => h1 e (List.mem_cons_of_mem _ he)) (fun e he => h2 e (List.mem_cons_of_mem _ he))
    rw [List.all_cons]
    cases hd : g d with
    | true =>
      rw [Bool.true_and]
      have hb := h1 d List.mem_cons_self hd
      rw [← h0 d] at hb
      refine ⟨fun e => ?_, fun e => ?_⟩
      · obtain ⟨ρ2, hf⟩ := i1 e
        rw [← h0 d] at hf
        exact ⟨ρ2, .next hb hf⟩
      · have hf := i2 e
        rw [← h0 d] at hf
        exact .next hb hf
    | false =>
      rw [Bool.false_and]
      have hb := h2 d List.mem_cons_self hd
      rw [← h0 d] at hb
      exact ⟨fun e => (by cases e), fun _ => .ret hb⟩
theorem ld_forAll (j : Nat) (g : PyData → Bool) (h : ED X ρ iter (.tuple ds)) (hb : ∀ d ∈ ds, TD X (ρ.set j (some d)) c (!g d)) (hg : PG X (.Name x pt) (gName j)) (hp : PassesOwn (model X.prog X.w) X.A X.env X.xe) (hc : X.calm = true := by rfl)
    (hs : ∀ x, foldedSetIterable iter X.env x = pure x := by intro _; rfl) :
    LD X ρ [.For (.Name x pt) iter [.If c [.Return (some (.Constant (.bool false) j1 q1)) q2] [] q3] [] pos, .Return (some (.Constant (.bool true) j2 q4)) q5] (.ret (.bool (ds.all g))) := by
  have step := forD_all (X := X) (j := j) (body := [.If c [.Return (some (.Constant (.bool false) j1 q1)) q2] [] q3]) g ρ ds ρ (fun _ => rfl) (fun d hd e => ?_) (fun d hd e => ?_)
  · cases hall : ds.all g with
    | false => exact ld_end (sd_forT j h (step.2 hall) hg hp hc hs)
    | true =>
      obtain ⟨ρ2, hf⟩ := step.1 hall
      exact ld_cons (sd_forT j h hf hg hp hc hs) (ld_end (sd_ret (d_bl true)))
  · have hb' := hb d hd
    rw [e] at hb'
    exact ld_cons (sd_if (k := false) hb' (fun e => by cases e) fun _ => ld_nil) ld_nil
  · have hb' := hb d hd
    rw [e] at hb'
    exact ld_end (sd_if (k := true) hb' (fun _ => ld_end (sd_ret (d_bl false))) fun e => by cases e)
end
end My

namespace HT
open PySem PySem.Spec PyProof.Rows
section
variable {prog : Program} {w : World} {A : Around} {E : Value → Shared → Prop} {s : Shared}
theorem sliceApplied_rev {sl : Addr} {vl vu vs : Value} {n : Nat} {Q : Int × Int × Nat → Shared → Prop} (hs : s.heap.IsSliceOf sl vl vu vs) (pl : IsPart vl none) (pu : IsPart vu none) (ps : IsPart vs (some (-1)))
    (h : Q ((n : Int) - 1, -1, n) s) : wpAny (model prog w) A (Builtin.Slice.sliceApplied (.ref sl) (pure (n : Int))) Q E s := by
  obtain ⟨os, hos, hcs, hds⟩ := id hs
  unfold Builtin.Slice.sliceApplied Builtin.Slice.sliceFields
  refine wpAny_bind (wpAny_bind (wpAny_field hos hds (x := vl) rfl (wpAny_bind (wpAny_field hos hds (x := vu) rfl (wpAny_bind (wpAny_field hos hds (x := vs) rfl (wpAny_pure ?_)))))))
  refine wpAny_bind (slicePart_ ps ?_)
  show wpAny _ _ (if ((-1 : Int) == 0) = true then _ else _) _ _ s
  rw [if_neg (by decide)]
  refine wpAny_bind (slicePart_ pl (wpAny_bind (slicePart_ pu (wpAny_bind (wpAny_pure ?_)))))
  show wpAny _ _ (match Builtin.Slice.sliceAdjust none none (-1) (n : Int) with | (lo, hi) => pure (lo, (-1 : Int), Builtin.Slice.slicePlaces lo hi (-1))) _ _ s
  have e1 : Builtin.Slice.sliceAdjust none none (-1) (n : Int) = ((n : Int) - 1, -1) := rfl
  rw [e1]
  show wpAny _ _ (pure (((n : Int) - 1), (-1 : Int), Builtin.Slice.slicePlaces ((n : Int) - 1) (-1) (-1))) _ _ s
  have e2 : Builtin.Slice.slicePlaces ((n : Int) - 1) (-1) (-1) = n := by
    unfold Builtin.Slice.slicePlaces
    rw [if_neg (by decide)]
    by_cases h : (n : Int) - 1 > -1
    · rw [if_pos h, show (- -1 : Int) = 1 by decide, Int.ediv_one]; omega
    · rw [if_neg h]; omega
  rw [e2]
  exact wpAny_pure h
theorem pick_rev (xs : Array Value) : ((List.range xs.size).filterMap fun (k : Nat) => xs[(((xs.size : Int) - 1) + (k : Int) * (-1)).toNat]?).toArray = xs.toList.reverse.toArray := by
  have h := PySem.W.krv_pick xs
  unfold slicePick at h
  rw [PySem.W.krv_bounds] at h
  rw [← h]
  show _ = ((sliceRange ((xs.size : Int) - 1) (-1) (-1)).filterMap (xs[·]?)).toArray
  rw [PySem.W.krv_sliceRange, List.filterMap_map]
  congr 2
  funext k
  show xs[(((xs.size : Int) - 1) + (k : Int) * (-1)).toNat]? = xs[xs.size - 1 - k]?
  congr 1
  omega
theorem getItem_tuple_rev {t sl : Addr} {items : Array Value} {vl vu vs : Value} {Q : Value → Shared → Prop} (ht : IsTup s.heap t items) (hs : s.heap.IsSliceOf sl vl vu vs) (pl : IsPart vl none) (pu : IsPart vu none) (ps : IsPart vs (some (-1)))
    (h : Q (.ref s.heap.objs.size) { s with heap := s.heap.push { cls := .type "tuple", data := .seq items.toList.reverse.toArray } })
    (hsz : items.size ≤ sizeLine) : wpAny (model prog w) A (getItem (.ref t) (.ref sl)) Q E s := by
  have htake : sizeOk (.seq items.toList.reverse.toArray) := by
    show items.toList.reverse.toArray.size ≤ sizeLine
    rw [List.size_toArray, List.length_reverse, Array.length_toList]
    omega
  obtain ⟨os, hos, hcs, hds⟩ := id hs
  have hTs : s.TypeIs (.ref sl) "slice" := ⟨os, hos, hcs⟩
  unfold getItem
  try with_reducible refine wpAny_holding ?_
  first | refine wpAny_bind (wpAny_pure ?_) | skip
  refine wpAny_bind (wpAny_sequenceKey ht.typeIs (by decide) ?_)
  refine wpAny_bind (wpAny_callSpecial?_slot (name := Str.ofString "__getitem__") ht.typeIs PyProof.Rows.slot_tuple_getitem
    (wpAny_call_entry PyProof.Rows.slot_tuple_getitem ht.typeIs entry_tuple_getitem ?_ (args_tuple_getitem _ _)))
  show wpAny _ _ (Builtin.Tuple.tupleItemsOf (.ref t) >>= _) _ _ s
  refine wpAny_bind (tupleItemsOf_ ht ?_)
  refine wpAny_bind (wpAny_typeOf hTs ?_)
  rw [if_pos (by decide)]
  refine wpAny_bind (sliceApplied_rev hs pl pu ps ?_)
  have hno : ¬ ((((items.size : Int) - 1) == 0 && (-1 : Int) == 1 && items.size == items.size) = true) := by
    intro q
    rw [Bool.and_eq_true, Bool.and_eq_true] at q
    exact absurd q.1.2 (by decide)
  show wpAny _ _ (if (((items.size : Int) - 1) == 0 && (-1 : Int) == 1 && items.size == items.size) = true then _ else _) _ _ s
  rw [if_neg hno, pick_rev]
  first
    | exact wpAny_bind (m := Builtin.Tuple.tupleExact _) (wpAny_newObj_type (wpAny_pure ⟨_, rfl, wpAny_pure h⟩) htake)
    | exact wpAny_bind (m := Builtin.Tuple.tupleExact _) (wpAny_newObj_type (wpAny_bind (wpAny_pure (wpAny_pure ⟨_, rfl, wpAny_pure h⟩))) htake)
    | exact wpAny_bind (wpAny_bind (m := Builtin.Tuple.tupleExact _) (wpAny_newObj_type (wpAny_pure (wpAny_pure ⟨_, rfl, wpAny_pure h⟩)) htake))
    | exact wpAny_bind (wpAny_bind (m := Builtin.Tuple.tupleExact _) (wpAny_newObj_type (wpAny_pure ⟨_, rfl, wpAny_pure h⟩) htake))
end
end HT
namespace My
open PySem PySem.Spec PyProof.Rows L2 HT
section
variable {X : Cx}
def tRevT (K : PySem.W.Frag) (te : TE) : TE := fun σ H Q => te σ H fun x H1 => ∃ a xs, x = .ref a ∧ SqT K H1 a xs ∧ ∀ p, H1 p = none → Q (.ref p) (upd H1 p (.tup xs.reverse))
theorem pe_revT {e : Expr} {te : TE} {k : Nat} {p1 p2 p3 pos : Pos} (he : PE X e te) : PE X (.Subscript e (.Slice none none (some (.UnaryOp .USub (.Constant (.int 1) k p1) p2)) p3) pos) (tRevT X.K te) := by
  refine ⟨fun pins s σ H Q I h => ?_⟩
  refine Subscript_ (thn (he.run pins s σ H _ I h) fun v s1 ⟨x, H1, I1, r1, q1⟩ => ?_)
  obtain ⟨a, xs, ex, hx, q⟩ := q1
  subst ex
  cases r1
  have hst : PO X (some (.UnaryOp .USub (.Constant (.int 1) k p1) p2)) (tPart (tUn (rU fun i => .int (-i)) (tC (.int 1)))) := po_some (pe_un un_neg pe_int)
  refine wpAny_Slice (thn (po_none.run pins s1 σ H1 (fun o H2 => o = none ∧ H2 = H1) I1 ⟨rfl, rfl⟩) fun vl s2 ⟨l, H2, I2, pl, el, e2⟩ => ?_)
  subst el e2
  refine thn (po_none.run pins s2 σ H2 (fun o H3 => o = none ∧ H3 = H2) I2 ⟨rfl, rfl⟩) fun vu s3 ⟨u, H3, I3, pu, eu, e3⟩ => ?_
  subst eu e3
  refine thn (hst.run pins s3 σ H3 (fun o H4 => o = some (-1) ∧ H4 = H3) I3 ⟨1, rfl, -1, rfl, rfl, rfl⟩) fun vs s4 ⟨o, H4, I4, ps, eo, e4⟩ => ?_
  subst eo e4
  have I5 : Inv X pins σ H4 { s4 with heap := s4.heap.push { cls := .type "slice", data := .fields #[vl, vu, vs] } } := I4.kept (t' := s4.toks) fun b ob q => Heap.get?_push_of_some _ q
  obtain ⟨its, r, ht, hz⟩ := I5.tuple hx
  have hlen := r.length
  show wpAny (model X.prog X.w) X.A (subscriptTail e (.Slice none none (some (.UnaryOp .USub (.Constant (.int 1) k p1) p2)) p3) (.ref a) (.ref s4.heap.objs.size)) (EP X pins σ Q) X.xe { s4 with heap := s4.heap.push { cls := .type "slice", data := .fields #[vl, vu, vs] } }
  refine tail_any (ops := [.ref a, .ref s4.heap.objs.size]) ht.typeIs (PyProof.Rows.slot_tuple_getitem.lookup) ?_ (by with_unfolding_all rfl)
  refine getItem_tuple_rev ht (Heap.IsSliceOf.new _ vl vu vs) pl pu ps ?_ (by rw [List.size_toArray]; omega)
  refine ⟨.ref _, _, I5.laid (t' := s4.toks) (o := .tup xs.reverse) (fun b ob q => Heap.get?_push_of_some _ q) (Nat.le_refl _) ?_, rfl, q _ (I5.hok.fresh (Nat.le_refl _))⟩
  exact ⟨by rw [List.length_reverse]; exact hz, _, r.reverse, IsTup.new _ _⟩
end
section
variable {X : Cx} {ρ : Rho} {a b c e lo hi : Expr} {d d1 d2 : PyData} {ds ds2 : List PyData} {pos p p1 p2 p3 : Pos}
theorem DGs.rev {S : Addr → Prop} {H : Hp} : ∀ {vs : List V} {ds : List PyData}, DGs S H vs ds → DGs S H vs.reverse ds.reverse
  | _, _, .nil => .nil
  | _, _, .cons h hs => by rw [List.reverse_cons, List.reverse_cons]; exact hs.rev.append (.cons h .nil)
/-- t[::-1] -/
theorem d_revT {k : Nat} (h : ED X ρ e (.tuple ds)) : ED X ρ (.Subscript e (.Slice none none (some (.UnaryOp .USub (.Constant (.int 1) k p1) p2)) p3) pos) (.tuple ds.reverse) := fun S σ H Q sl q =>
  toE (pe_revT pE) (h S σ H _ sl fun v H1 s1 g1 => by
    obtain ⟨a, xs, rfl, ha, hs, sq⟩ := g1.seq (K := X.K)
    exact ⟨a, xs, rfl, sq, fun p hp => q _ _ (s1.trans (same_new hp)) (.tup upd_same (hs.rev.same (same_new hp)))⟩)
/-- t + u -/
theorem d_catT (h : ED X ρ a (.tuple ds)) (h2 : ED X ρ b (.tuple ds2)) (l : ds.length + ds2.length ≤ 10000000) : ED X ρ (.BinOp a .Add b pos) (.tuple (ds ++ ds2)) := fun S σ H Q sl q =>
  e_op op_catA (h S σ H _ sl fun v H1 s1 g1 => h2 S σ H1 _ (sl.same s1) fun u H2 s2 g2 => by
    obtain ⟨a, xs, rfl, ha, hs, sq⟩ := (g1.same s2).seq (K := X.K)
    obtain ⟨b, ys, rfl, hb, ks, tq⟩ := g2.seq (K := X.K)
    have l1 := hs.length
    have l2 := ks.length
    refine ⟨a, b, xs, ys, rfl, rfl, sq, tq, Nat.le_trans (show xs.length + ys.length ≤ 10000000 by omega) (by decide), fun e => ?_, fun _ e => ?_, fun _ _ p hp => ?_⟩
    · subst e
      cases hs
      exact q _ _ (s1.trans s2) (.tup hb ks)
    · subst e
      cases ks
      rw [List.append_nil] at q
      exact q _ _ (s1.trans s2) (.tup ha hs)
    · exact q _ _ ((s1.trans s2).trans (same_new hp)) (.tup upd_same ((hs.append ks).same (same_new hp))))
end
end My

namespace L2
open PySem PySem.Spec PyProof.Rows
theorem tuple_mulW1 (l : Addr) (items : Array Value) (n : Nat) (dd : Option Addr) (sl : Array (Option Value)) (u : Tok) :
    Meets (Builtin.«tuple.__mul__» ⟨[.ref l, .int 1 u], []⟩) (fun _ R s => s.heap.get? l = some { cls := .type "tuple", dict := dd, data := .seq items n, slots := sl } ∧ R (.ok (.ret (Value.ref l))) s) :=
  .of_wp fun prog w A R s h => by
    obtain ⟨hp, g, d, tk, os⟩ := s
    obtain ⟨hl, h⟩ := h
    have f1 := AutoSeq1.idx_int
    wp_walk using wpAny_loadPart' hl
    repeat (first
      | (refine wpAny_ite_false (decide_eq_false (by decide)) ?_; wp_walk using wpAny_loadPart' hl)
      | (refine wpAny_ite_true (decide_eq_true (by simp)) ?_; wp_walk using wpAny_loadPart' hl))
    exact ⟨_, rfl, h⟩
theorem tuple_mulW0 (l : Addr) (items : Array Value) (n : Nat) (dd : Option Addr) (sl : Array (Option Value)) (u : Tok) (c1 : (items.isEmpty || (0 : Int) == 1) = false) :
    Meets (Builtin.«tuple.__mul__» ⟨[.ref l, .int 0 u], []⟩) (fun _ R s => s.heap.get? l = some { cls := .type "tuple", dict := dd, data := .seq items n, slots := sl } ∧
      R (.ok (.ret (Value.ref s.heap.objs.size))) { s with heap := s.heap.push { cls := Value.type "tuple", data := Data.seq #[] }, toks := s.toks }) :=
  .of_wp fun prog w A R s h => by
    obtain ⟨hp, g, d, tk, os⟩ := s
    obtain ⟨hl, h⟩ := h
    have f1 := AutoSeq1.idx_int
    wp_walk using wpAny_loadPart' hl
    repeat (first
      | (refine wpAny_ite_false (decide_eq_false (by rw [c1]; exact Bool.false_ne_true)) ?_; wp_walk using wpAny_loadPart' hl)
      | (refine wpAny_ite_false (decide_eq_false (by decide)) ?_; wp_walk using wpAny_loadPart' hl)
      | (refine wpAny_ite_true (decide_eq_true (by simp)) ?_; wp_walk using wpAny_loadPart' hl)
      | (refine wpAny_ite_false (decide_eq_false (Nat.not_lt.mpr (Nat.zero_le _))) ?_; wp_walk using wpAny_loadPart' hl))
    exact ⟨_, rfl, h⟩
theorem rep_size {α : Type} (a : Array α) : ∀ (m : Nat) (b : Array α), ((List.replicate m a).foldl (fun x1 x2 => x1 ++ x2) b).size = b.size + m * a.size
  | 0, b => by simp
  | m + 1, b => by
    rw [List.replicate_succ, List.foldl_cons, rep_size a m (b ++ a), Array.size_append, Nat.succ_mul]
    omega
section
variable {X : Cx}
/-- t * 1 is t itself; t * 0 is () -/
theorem op_rep01 : OpR X (binaryOp .Mult) (fun x y H Q => ∃ l k xs, x = .ref l ∧ y = .int k ∧ SqT X.K H l xs ∧ xs ≠ [] ∧ ((k = 1 ∧ Q (.ref l) H) ∨ (k = 0 ∧ ∀ p, H p = none → Q (.ref p) (upd H p (.tup []))))) := by
  intro pins s σ H x y v u Q I rx ry h
  obtain ⟨l, k, xs, rfl, rfl, hT, hne, q⟩ := h
  cases rx
  obtain ⟨t, rfl⟩ := ry
  obtain ⟨its, r, ⟨⟨cls, dd, data, sl⟩, ho, hc, n, hd⟩, hs⟩ := I.tuple hT
  simp only at hc hd
  subst hc hd
  rcases q with ⟨rfl, q⟩ | ⟨rfl, q⟩
  · exact wpAny_binaryOp_repeat_ref (T := "tuple") (U := "int") (by decide) ⟨_, ho, rfl⟩ (fun s' => typeIs_int s' 1 t) noFill_tuple_mul F.fills_int_mul F.slot_int_rmul repeat_tuple F.slot_int_index.lookup
      (call_meets F.slot_int_rmul (typeIs_int s 1 t) F.entry_int_rmul (F.args_int_rmul_2 _ _) (int_rmul_tuple 1 t l its.toArray n dd sl)
        ⟨ho, rfl, ⟨_, ho, rfl⟩, call_meets F.slot_tuple_mul ⟨_, ho, rfl⟩ F.entry_tuple_mul (F.args_tuple_mul_2 _ _) (tuple_mulW1 l its.toArray n dd sl t) ⟨ho, ⟨.ref l, H, I, rfl, q⟩⟩⟩)
  · have hn : its ≠ [] := fun e => hne (by
      have hle : its.length = xs.length := r.length.symm
      rw [e] at hle
      exact List.eq_nil_of_length_eq_zero hle.symm)
    have hi : its.toArray.isEmpty = false := by
      cases its with
      | nil => exact absurd rfl hn
      | cons a b => rfl
    refine wpAny_binaryOp_repeat_ref (T := "tuple") (U := "int") (by decide) ⟨_, ho, rfl⟩ (fun s' => typeIs_int s' 0 t) noFill_tuple_mul F.fills_int_mul F.slot_int_rmul repeat_tuple F.slot_int_index.lookup
      (call_meets F.slot_int_rmul (typeIs_int s 0 t) F.entry_int_rmul (F.args_int_rmul_2 _ _) (int_rmul_tuple 0 t l its.toArray n dd sl)
        ⟨ho, rfl, ⟨_, ho, rfl⟩, call_meets F.slot_tuple_mul ⟨_, ho, rfl⟩ F.entry_tuple_mul (F.args_tuple_mul_2 _ _) (tuple_mulW0 l its.toArray n dd sl t (by rw [hi]; rfl)) ⟨ho, ?_⟩⟩)
    refine ⟨.ref s.heap.objs.size, _, I.laid (t' := s.toks) (o := .tup []) (fun b ob q => Heap.get?_push_of_some _ q) (Nat.le_refl _) ?_, rfl, q _ (I.hok.fresh (Nat.le_refl _))⟩
    exact ⟨Nat.zero_le _, [], .nil, IsTup.new _ _⟩
/-- text * int -/
theorem op_mulS : OpR X (binaryOp .Mult) (fun x y H Q => ∃ z k, x = .str z ∧ y = .int k ∧ 2 ≤ k ∧ k ≤ 1000 ∧ 1 ≤ z.length ∧ z.length ≤ 1000 ∧ Q (.str ⟨(List.replicate k.toNat z.cps).foldl (· ++ ·) #[]⟩) H) := by
  intro pins s σ H x y v u Q I rx ry h
  obtain ⟨z, k, rfl, rfl, h1, h2, h3, h4, q⟩ := h
  obtain ⟨t, rfl⟩ := rx
  obtain ⟨t', rfl⟩ := ry
  have hno : (k == 1 || z.length == 0) = false := by
    rw [beq_eq_false_iff_ne.mpr (show k ≠ 1 by omega), beq_eq_false_iff_ne.mpr (show z.length ≠ 0 by omega)]; rfl
  refine P.mul_str ?_ (fun _ _ => ?_) (fun _ _ => ?_) ?_
  · rw [decide_eq_false (by omega), decide_eq_false (by omega)]; rfl
  · have : (1000 : Int) ≤ (2 ^ 63 - 1) / k := by
      refine Int.le_ediv_of_mul_le (by omega) ?_
      omega
    omega
  · refine decide_eq_false ?_
    rw [sizeLine_eq]
    have : z.length * k.toNat ≤ 1000 * 1000 := Nat.mul_le_mul h4 (by omega)
    omega
  · rw [if_neg (by omega), hno, if_neg (by decide)]
    refine ⟨?_, ⟨.str _, H, I.tok _, ⟨_, rfl⟩, q⟩⟩
    show ((List.replicate k.toNat z.cps).foldl (fun x1 x2 => x1 ++ x2) #[]).size ≤ sizeLine
    rw [rep_size, sizeLine_eq]
    have : k.toNat * z.cps.size ≤ 1000 * 1000 := Nat.mul_le_mul (by omega) h4
    show #[].size + _ ≤ _
    simp only [List.size_toArray, List.length_nil]
    omega
end
end L2
namespace My
open PySem PySem.Spec PyProof.Rows L2
def repS (z : Str) (k : Nat) : Str := ⟨(List.replicate k z.cps).foldl (· ++ ·) #[]⟩
theorem DGs.flat {S : Addr → Prop} {H : Hp} {xs : List V} {ds : List PyData} (h : DGs S H xs ds) : ∀ k, DGs S H (List.replicate k xs).flatten (List.replicate k ds).flatten
  | 0 => .nil
  | k + 1 => by rw [List.replicate_succ, List.replicate_succ, List.flatten_cons, List.flatten_cons]; exact h.append (h.flat k)
section
variable {X : Cx} {ρ : Rho} {a b e : Expr} {ds : List PyData} {pos : Pos} {k : Nat}
/-- t * k -/
theorem d_mulT (h : ED X ρ a (.tuple ds)) (hb : ED X ρ b (.int (k : Int))) (h0 : 0 < ds.length) (h1 : ds.length ≤ 1000) (h2 : k ≤ 1000) : ED X ρ (.BinOp a .Mult b pos) (.tuple (List.replicate k ds).flatten) := fun S σ H Q sl q => by
  by_cases hk : 2 ≤ k
  · refine e_op op_repT (h S σ H _ sl fun v H1 s1 g1 => hb S σ H1 _ (sl.same s1) fun u H2 s2 g2 => ?_)
    cases g2
    obtain ⟨a, xs, rfl, ha, hs, sq⟩ := (g1.same s2).seq (K := X.K)
    have lx := hs.length
    exact ⟨a, _, xs, rfl, rfl, sq, fun e => by rw [e] at lx; simp at lx; omega, by omega, by omega, by omega, fun p hp => q _ _ ((s1.trans s2).trans (same_new hp)) (.tup upd_same ((hs.flat k).same (same_new hp)))⟩
  · refine e_op op_rep01 (h S σ H _ sl fun v H1 s1 g1 => hb S σ H1 _ (sl.same s1) fun u H2 s2 g2 => ?_)
    cases g2
    obtain ⟨a, xs, rfl, ha, hs, sq⟩ := (g1.same s2).seq (K := X.K)
    have lx := hs.length
    refine ⟨a, _, xs, rfl, rfl, sq, fun e => by rw [e] at lx; simp at lx; omega, ?_⟩
    by_cases k1 : k = 1
    · subst k1
      refine .inl ⟨rfl, q _ _ (s1.trans s2) ?_⟩
      show DG S H2 (.ref a) (.tuple (ds ++ []))
      rw [List.append_nil]
      exact .tup ha hs
    · have k0 : k = 0 := by omega
      subst k0
      exact .inr ⟨rfl, fun p hp => q _ _ ((s1.trans s2).trans (same_new hp)) (.tup upd_same .nil)⟩
/-- text * k -/
theorem d_mulS {z : Str} (h : ED X ρ a (.str z)) (hb : ED X ρ b (.int (k : Int))) (h0 : 1 ≤ z.length) (h1 : z.length ≤ 1000) (h2 : 2 ≤ k) (h3 : k ≤ 1000) : ED X ρ (.BinOp a .Mult b pos) (.str (repS z k)) := fun S σ H Q sl q =>
  e_op op_mulS (h S σ H _ sl fun v H1 s1 g1 => hb S σ H1 _ (sl.same s1) fun u H2 s2 g2 => by
    cases g1; cases g2
    exact ⟨z, _, rfl, rfl, by omega, by omega, h0, h1, q _ _ (s1.trans s2) (.str _)⟩)
/-- text[i] -/
theorem d_ixS {z : Str} {i c : Nat} (h : ED X ρ a (.str z)) (hb : ED X ρ b (.int (i : Int))) (hz : z.length ≤ 1000) (hi : z.cps.toList[i]? = some c) (hs : PlainIx b := by exact fun _ _ => rfl) : ED X ρ (.Subscript a b pos) (.str ⟨#[c]⟩) := fun S σ H Q sl q =>
  e_ixS (h S σ H _ sl fun v H1 s1 g1 => hb S σ H1 _ (sl.same s1) fun u H2 s2 g2 => by
    cases g1; cases g2
    exact ⟨z, _, c, rfl, rfl, Nat.le_trans hz (by decide), atI_nat hi, q _ _ (s1.trans s2) (.str _)⟩) hs
end
end My

namespace My
open PySem PySem.Spec PyProof.Rows L2
/-! ### a block that gathers data in one list -/
abbrev SpF (p : Addr) : Addr → Prop := fun a => a = p
structure Ap (F : Addr) (ok : PyData → Prop) (ρ : Rho) (n : Nat) (σ : L2.St) (H : Hp) : Prop where
  sl : SL (SpF F) H σ ρ
  at0 : σ[0]? = some (some (.ref F))
  lst : ∃ xs ds, H F = some (.lst xs) ∧ DGs (SpF F) H xs ds ∧ ds.length ≤ n ∧ ∀ d ∈ ds, ok d
def SE (X : Cx) (F : Addr) (ok : PyData → Prop) (st : Stmt) (ρ : Rho) (n : Nat) (ρ' : Rho) (n' : Nat) : Prop := ∀ (σ : L2.St) (H : Hp) (D : Ends), Ap F ok ρ n σ H → (∀ σ' H', But F H H' → Ap F ok ρ' n' σ' H' → D.nx σ' H') → WS X st D σ H
def LE (X : Cx) (F : Addr) (ok : PyData → Prop) (l : List Stmt) (ρ : Rho) (n : Nat) (ρ' : Rho) (n' : Nat) : Prop := ∀ (σ : L2.St) (H : Hp) (D : Ends), Ap F ok ρ n σ H → (∀ σ' H', But F H H' → Ap F ok ρ' n' σ' H' → D.nx σ' H') → WL X l D σ H
theorem SL.keep {S : Addr → Prop} {H H' : Hp} {σ : L2.St} {ρ : Rho} (h : SL S H σ ρ) (ht : Tup H H') (k : ∀ a o, ¬ S a → H a = some o → H' a = some o) (hd : ∀ a, S a → H' a ≠ none) : SL S H' σ ρ :=
  ⟨hd, fun i d q => let ⟨v, a, b⟩ := h.look i d q; ⟨v, a, b.mono ht fun a o n e => ⟨n, k a o n e⟩⟩, h.len⟩
section
variable {X : Cx} {F : Addr} {ok : PyData → Prop} {ρ ρ1 ρ2 : Rho} {n n1 n2 : Nat} {e : Expr} {d : PyData} {st : Stmt} {l : List Stmt} {ds : List PyData} {pos pos' apos p pt : Pos} {x : Str}
theorem le_nil : LE X F ok [] ρ n ρ n := fun σ H D I q => l_nil (q σ H (fun _ _ _ e => e) I)
theorem le_cons (h : SE X F ok st ρ n ρ1 n1) (hs : LE X F ok l ρ1 n1 ρ2 n2) : LE X F ok (st :: l) ρ n ρ2 n2 := fun σ H D I q =>
  l_cons (h σ H _ I fun σ1 H1 b1 I1 => hs σ1 H1 _ I1 fun σ2 H2 b2 I2 => q σ2 H2 (b1.trans b2) I2)
theorem se_set (i : Nat) (h : ED X ρ e d) (hN : X.N.Nodup) (h0 : i ≠ 0) (hi : X.N[i]? = some x := by rfl) (hx : Loc X.env.scope x := by first | exact Or.inl rfl | exact Or.inr rfl)
    (hs : swapsWith e (some (.Name x pos')) pos.line X.env = pure false := by rfl) (hf : X.fn x = true ∨ X.env.scope.names.lookup x = some .local := by first | exact .inl rfl | exact .inr rfl | assumption) :
    SE X F ok (.Assign [.Name x pos'] e pos) ρ n (ρ.set i (some d)) n := fun σ H D I q =>
  s_set i (h _ σ H _ I.sl fun v H1 s1 g1 => by
    obtain ⟨xs, ds, a, b, c, k⟩ := I.lst
    exact q _ H1 (But.of s1) ⟨(I.sl.same s1).set g1, by rw [List.getElem?_set_ne h0]; exact I.at0, xs, ds, s1 _ _ a, b.same s1, c, k⟩) hN hi hx hs hf
theorem se_app (h : ED X ρ e d) (hd : ok d) (hn : n ≤ 1000) (hi : X.N[0]? = some x := by rfl) (hv : Vis X.env.scope x := by first | exact Or.inl rfl | exact Or.inr (Or.inl rfl) | exact Or.inr (Or.inr rfl))
    (hbase : attributeBase (.Name x p) "append" X.env (eval (.Name x p) X.env) = eval (.Name x p) X.env := by rfl)
    (hfew : ((backTo pos (starEach [e] X.env)).all (fun x => !x.1) && (backToKw pos (keywordEach [] X.env)).all (fun x => x.1.isSome) && decide ([e].length + ([] : List Keyword).length + (if ([] : List Keyword).isEmpty then 0 else 1) < 30)) = true := by rfl)
    (hline : (apos.endLine == pos.line) = true := by rfl) (hs : starEach [e] X.env = (false, eval e X.env) :: starEach [] X.env := by rfl) (hplain : (backTo pos (starEach [] X.env)).any (·.1) = false := by rfl)
    (hsw : swapsWith (.Call (.Attribute (.Name x p) "append" apos) [e] [] pos) none pos'.line X.env = pure false := by rfl)
    (hd1 : (x == ("__debug__" : Str)) = false := by decide) (hcd : (x == ("__classdict__" : Str)) = false := by decide) :
    SE X F ok (.Expr (.Call (.Attribute (.Name x p) "append" apos) [e] [] pos) pos') ρ n ρ (n + 1) := fun σ H D I q => by
  obtain ⟨xs, ds, a, b, c, k⟩ := I.lst
  have lx := b.length
  refine s_app (e_var 0 I.at0 ⟨⟨F, xs, rfl, .inl (.inl a)⟩, h _ σ H _ I.sl fun v H1 s1 g1 => ⟨F, xs, rfl, s1 _ _ a, Nat.lt_of_lt_of_le (show xs.length < 10000 by omega) (by decide), ?_⟩⟩ hi hv hd1 hcd) hbase hfew hline hs hplain hsw
  have a1 := s1 _ _ a
  have up : ∀ {v : V} {d : PyData}, DG (SpF F) H1 v d → DG (SpF F) (upd H1 F (.lst (xs ++ [v]))) v d := fun g => g.mono (Tup.set a1) fun b o nb e => ⟨nb, by rw [upd_ne nb]; exact e⟩
  refine q σ _ (fun b o nb e => by rw [upd_ne nb]; exact s1 _ _ e) ⟨(I.sl.same s1).keep (Tup.set a1) (fun b o nb e => by rw [upd_ne nb]; exact e) (fun b e => by rw [show b = F from e, upd_same]; exact fun z => by cases z), I.at0, xs ++ [v], ds ++ [d], upd_same, ?_, ?_, ?_⟩
  · exact ((b.same s1).append (.cons g1 .nil)).mono (Tup.set a1) fun b o nb e => ⟨nb, by rw [upd_ne nb]; exact e⟩
  · rw [List.length_append]; exact Nat.succ_le_succ c
  · intro y hy
    rcases List.mem_append.mp hy with hy | hy
    · exact k y hy
    · rw [List.mem_singleton.mp hy]; exact hd
inductive ForE (X : Cx) (F : Addr) (ok : PyData → Prop) (j : Nat) (body : List Stmt) : List PyData → Rho → Nat → Rho → Nat → Prop
  | done {ρ : Rho} {n : Nat} : ForE X F ok j body [] ρ n ρ n
  | next {ρ ρ1 ρ2 : Rho} {n n1 n2 : Nat} {d : PyData} {ds : List PyData} (h : LE X F ok body (ρ.set j (some d)) n ρ1 n1) (r : ForE X F ok j body ds ρ1 n1 ρ2 n2) : ForE X F ok j body (d :: ds) ρ n ρ2 n2
theorem se_for {iter : Expr} {body : List Stmt} (j : Nat) (h : ED X ρ iter (.tuple ds)) (hf : ForE X F ok j body ds ρ n ρ2 n2) (hj : j ≠ 0) (hg : PG X (.Name x pt) (gName j)) (hp : PassesOwn (model X.prog X.w) X.A X.env X.xe) (hc : X.calm = true := by rfl)
    (hs : ∀ x, foldedSetIterable iter X.env x = pure x := by intro _; rfl) : SE X F ok (.For (.Name x pt) iter body [] pos) ρ n ρ2 n2 := fun σ H D I q => by
  refine s_for (pi_tup pE) hg (h _ σ H _ I.sl fun v H1 s1 g1 => ?_) hp hc hs
  obtain ⟨a, xs, rfl, ha, hds, sq⟩ := g1.seq (K := X.K)
  have I1 : Ap F ok ρ n σ H1 := by
    obtain ⟨ys, es, a, b, c, k⟩ := I.lst
    exact ⟨I.sl.same s1, I.at0, ys, es, s1 _ _ a, b.same s1, c, k⟩
  have tupF : ∀ {H' : Hp}, But F H1 H' → Tup H1 H' := fun b => by
    obtain ⟨ys, es, a, _⟩ := I1.lst
    exact b.tups a
  refine ⟨a, rfl, ⟨xs, sq⟩, for_tup (xs := xs) (fun i σ' H' => ∃ ρ' n', But F H1 H' ∧ Ap F ok ρ' n' σ' H' ∧ ForE X F ok j body (ds.drop i) ρ' n' ρ2 n2) ⟨ρ, n, fun _ _ _ e => e, I1, hf⟩ (fun i σ' H' _ ⟨_, _, b2, _⟩ => .inl (.inl (tupF b2 _ _ ha))) ?_ ?_⟩
  · rintro i y σ' H' hi ⟨ρ', n', b2, I2, fd⟩
    obtain ⟨d, hd, hy⟩ := hds.get hi
    have lt : i < ds.length := (List.getElem?_eq_some_iff.mp hd).1
    have e : ds.drop i = d :: ds.drop (i + 1) := by
      rw [List.drop_eq_getElem_cons lt]
      rw [List.getElem?_eq_getElem lt] at hd
      rw [Option.some.inj hd]
    rw [e] at fd
    have hy2 := hy.mono (T := SpF F) (tupF b2) fun a o nb e => ⟨nb, b2 a o nb e⟩
    have I3 : Ap F ok (ρ'.set j (some d)) n' (σ'.set j (some y)) H' := ⟨I2.sl.set hy2, by rw [List.getElem?_set_ne hj]; exact I2.at0, I2.lst⟩
    cases fd with
    | next hb r => exact hb _ H' _ I3 fun σ4 H4 b4 I4 => ⟨_, _, b2.trans b4, I4, r⟩
  · rintro σ' H' ⟨ρ', n', b2, I2, fd⟩
    rw [hds.length, List.drop_length] at fd
    cases fd
    exact q σ' H' ((But.of s1).trans b2) I2
end
end My

namespace My
open PySem PySem.Spec PyProof.Rows L2
/-! ### reading, as functions of what is left -/
abbrev Cs := List Nat
abbrev cs (z : Str) : Cs := z.cps.toList
def mkS (l : Cs) : Str := ⟨l.toArray⟩
theorem mkS_cs (z : Str) : mkS (cs z) = z := by cases z; rfl
theorem cs_mkS (l : Cs) : cs (mkS l) = l := by show (l.toArray).toList = l; simp
theorem cs_cat (a b : Str) : cs (a ++ b) = cs a ++ cs b := by show (a.cps ++ b.cps).toList = _; simp
/-- what is left behind a sign -/
def tk (s : Str) (r : Cs) : Option Cs := if (cs s).isPrefixOf r then some (r.drop (cs s).length) else none
def wordOf (r : Cs) : Cs := (r.take 9).takeWhile lowC
def pName (r : Cs) : Option (PyData × Cs) := if namD (.str (mkS (wordOf r))) then some (.str (mkS (wordOf r)), r.drop (wordOf r).length) else none
def pVal (r : Cs) : Option (PyData × Cs) := (tk "'" r).bind fun r1 => if valD (.str (mkS (wordOf r1))) then (tk "'" (r1.drop (wordOf r1).length)).map fun r2 => (.str (mkS (wordOf r1)), r2) else none
def pDot (r : Cs) : Option ((PyData × PyData) × Cs) := (pName r).bind fun x => match tk "." x.2 with
  | some r2 => (pName r2).map fun y => ((x.1, y.1), y.2)
  | none => some ((.none, x.1), x.2)
def pMore (p : Cs → Option (PyData × Cs)) (sep : Str) : Nat → Cs → Option (List PyData × Cs)
  | n, r => match tk sep r with
    | none => some ([], r)
    | some r1 => match n with
      | 0 => none
      | n + 1 => (p r1).bind fun x => (pMore p sep n x.2).map fun y => (x.1 :: y.1, y.2)
def pList (p : Cs → Option (PyData × Cs)) (sep : Str) (most : Nat) (r : Cs) : Option (List PyData × Cs) := (p r).bind fun x => (pMore p sep (most - 1) x.2).map fun y => (x.1 :: y.1, y.2)
def pTerm : Nat → Cs → Option (PyData × Cs)
  | k, r => if (tk "'" r).isSome then pVal r else (pDot r).bind fun x => match tk "(" x.2 with
    | none => some (.tuple [x.1.1, x.1.2], x.2)
    | some r2 => match k with
      | 0 => none
      | k + 1 => (pTerm k r2).bind fun t1 => match tk ", " t1.2 with
        | some r4 => (pTerm k r4).bind fun t2 => (tk ")" t2.2).map fun r6 => (.tuple [.str "call", x.1.1, x.1.2, .tuple [t1.1, t2.1]], r6)
        | none => (tk ")" t1.2).map fun r6 => (.tuple [.str "call", x.1.1, x.1.2, .tuple [t1.1]], r6)
def pTold1 (r : Cs) : Option (PyData × Cs) := (pTerm 3 r).bind fun x => if colD x.1 then (match tk " as " x.2 with
    | some r2 => (pName r2).map fun y => (.tuple [.str "column", x.1, y.1], y.2)
    | none => some (.tuple [.str "column", x.1, at' x.1 1], x.2))
  else (tk " as " x.2).bind fun r2 => (pName r2).map fun y => (.tuple [.str "term", x.1, y.1], y.2)
def pTold (r : Cs) : Option (PyData × Cs) := if (tk "'" r).isSome then pTold1 r else (pName r).bind fun x => match tk ".*" x.2 with
  | some r2 => some (.tuple [.str "star", x.1], r2)
  | none => pTold1 r
def pSource (r : Cs) : Option (PyData × Cs) := (pDot r).bind fun x => if (tk " where " x.2).isSome then some (.tuple [x.1.1, x.1.2, x.1.2], x.2) else match tk " " x.2 with
  | none => some (.tuple [x.1.1, x.1.2, x.1.2], x.2)
  | some r2 => (pName r2).map fun y => (.tuple [x.1.1, x.1.2, y.1], y.2)
def pCond (r : Cs) : Option (PyData × Cs) := (pDot r).bind fun x => match tk " = " x.2 with
  | some r2 => (pDot r2).map fun y => (.tuple [.str "equal", .tuple [x.1.1, x.1.2], .tuple [y.1.1, y.1.2]], y.2)
  | none => (tk " in (" x.2).bind fun r2 => (pList pVal ", " 8 r2).bind fun y => (tk ")" y.2).map fun r4 => (.tuple [.str "in", .tuple [x.1.1, x.1.2], .tuple y.1], r4)
def pSel (r : Cs) : Bool × Cs := match tk "distinct " r with
  | some r2 => (true, r2)
  | none => (false, r)
def pTail (b : Bool) (ts : List PyData) (r : Cs) : Option (PyData × Cs) := (tk " from " r).bind fun r4 => (pList pSource ", " 4 r4).bind fun s => match tk " where " s.2 with
  | some r6 => (pList pCond " and " 8 r6).map fun c => (.tuple [.bool b, .tuple ts, .tuple s.1, .tuple c.1], c.2)
  | none => some (.tuple [.bool b, .tuple ts, .tuple s.1, .tuple []], s.2)
def pStmt (r : Cs) : Option (PyData × Cs) := (tk "select " r).bind fun r1 => (pList pTold ", " 8 (pSel r1).2).bind fun t => pTail (pSel r1).1 t.1 t.2
/-! ### what stands behind -/
/-- no letter stands next -/
def Stop (r : Cs) : Prop := ∀ c, r.head? = some c → lowC c = false
/-- nothing, or a blank, a comma, a closing one -/
def StopT (r : Cs) : Prop := ∀ c, r.head? = some c → c = 32 ∨ c = 44 ∨ c = 41
theorem StopT.stop {r : Cs} (h : StopT r) : Stop r := fun c e => by rcases h c e with rfl | rfl | rfl <;> decide +kernel
theorem tk_cat (s : Str) (r : Cs) : tk s (cs s ++ r) = some r := by
  unfold tk
  rw [if_pos (List.isPrefixOf_iff_prefix.mpr (List.prefix_append _ _)), List.drop_left]
theorem tk_none1 {s : Str} {c : Nat} {t : Cs} (e : cs s = c :: t) {r : Cs} (h : ∀ d, r.head? = some d → d ≠ c) : tk s r = none := by
  unfold tk
  rw [if_neg]
  intro z
  rw [e] at z
  cases r with
  | nil => exact Bool.noConfusion z
  | cons d r =>
    have : (c == d && t.isPrefixOf r) = true := z
    rw [Bool.and_eq_true] at this
    exact h d rfl (eq_of_beq this.1).symm
theorem tk_none2 {s : Str} {a b c d : Nat} {t u : Cs} (e : cs s = a :: b :: t) (h : b ≠ d) : tk s (c :: d :: u) = none := by
  unfold tk
  rw [if_neg]
  intro z
  rw [e] at z
  have : (a == c && (b == d && t.isPrefixOf u)) = true := z
  rw [Bool.and_eq_true, Bool.and_eq_true] at this
  exact h (eq_of_beq this.2.1)
theorem takeWhile_stop {l r : Cs} (hl : l.all lowC = true) (hr : Stop r) : (l ++ r).takeWhile lowC = l := by
  rw [List.takeWhile_append_of_pos fun a ha => List.all_eq_true.mp hl a ha]
  cases r with
  | nil => simp
  | cons c r => rw [List.takeWhile_cons_of_neg (by rw [hr c rfl]; exact Bool.false_ne_true), List.append_nil]
theorem wordOf_cat {l r : Cs} (hl : l.all lowC = true) (h8 : l.length ≤ 8) (hr : Stop r) : wordOf (l ++ r) = l := by
  unfold wordOf
  rw [List.take_append, List.take_of_length_le (by omega)]
  refine takeWhile_stop hl fun c e => hr c ?_
  cases r with
  | nil => simp at e
  | cons d r =>
    have : 9 - l.length = (8 - l.length) + 1 := by omega
    rw [this, List.take_succ_cons] at e
    exact e
theorem val_cs {z : Str} (h : valS z = true) : (cs z).all lowC = true ∧ (cs z).length ≤ 8 ∧ 1 ≤ (cs z).length := by
  have h' : (decide (1 ≤ z.length) && decide (z.length ≤ 8) && z.cps.toList.all letB) = true := h
  rw [Bool.and_eq_true, Bool.and_eq_true] at h'
  exact ⟨h'.2, of_decide_eq_true h'.1.2, of_decide_eq_true h'.1.1⟩
theorem namE {d : PyData} (h : namD d = true) : ∃ z, d = .str z ∧ valS z = true ∧ z ∉ resv := by
  cases d with
  | str z =>
    have h' : (valS z && !decide (z ∈ resv)) = true := h
    rw [Bool.and_eq_true] at h'
    exact ⟨z, rfl, h'.1, by simpa using h'.2⟩
  | _ => cases h
theorem pName_cat {z : Str} {r : Cs} (h : namD (.str z) = true) (hr : Stop r) : pName (cs z ++ r) = some (.str z, r) := by
  obtain ⟨_, e, hv, _⟩ := namE h
  cases e
  obtain ⟨h1, h2, _⟩ := val_cs hv
  have e := wordOf_cat h1 h2 hr
  unfold pName
  rw [e, mkS_cs, if_pos h, List.drop_left]
theorem pVal_cat {z : Str} {r : Cs} (h : valS z = true) : pVal (cs ("'" : Str) ++ (cs z ++ (cs ("'" : Str) ++ r))) = some (.str z, r) := by
  obtain ⟨h1, h2, _⟩ := val_cs h
  have hr : Stop (cs ("'" : Str) ++ r) := fun c e => by cases e; decide +kernel
  have e := wordOf_cat h1 h2 hr
  unfold pVal
  rw [tk_cat]
  show (if valD (.str (mkS (wordOf (cs z ++ (cs ("'" : Str) ++ r))))) then (tk "'" ((cs z ++ (cs ("'" : Str) ++ r)).drop (wordOf (cs z ++ (cs ("'" : Str) ++ r))).length)).map _ else none) = _
  rw [e, mkS_cs, if_pos (show valD (.str z) = true from h), List.drop_left, tk_cat]
  rfl
end My

namespace My
open PySem PySem.Spec PyProof.Rows L2
/-! ### the texts of statements, as functions of the data -/
def sv : PyData → Str
  | .str z => z
  | _ => Str.empty
def dotT (a b : PyData) : Str := match a with
  | .str l => l ++ ("." : Str) ++ sv b
  | _ => sv b
def quoT (z : Str) : Str := ("'" : Str) ++ z ++ ("'" : Str)
def termT : Nat → PyData → Str
  | _, .str z => quoT z
  | _, .tuple [a, b] => dotT a b
  | k + 1, .tuple [_, s, n, .tuple ts] => dotT s n ++ ("(" : Str) ++ Txt.join (", " : Str) (ts.map (termT k)) ++ (")" : Str)
  | _, _ => Str.empty
def cellT : PyData → Str
  | .tuple [a, b] => dotT a b
  | _ => Str.empty
def toldT : PyData → Str
  | .tuple [_, n] => sv n ++ (".*" : Str)
  | .tuple [_, .tuple [a, b], n] => if sv b = sv n then dotT a b else dotT a b ++ (" as " : Str) ++ sv n
  | .tuple [_, t, n] => termT 3 t ++ (" as " : Str) ++ sv n
  | _ => Str.empty
def srcT : PyData → Str
  | .tuple [s, n, l] => if sv l = sv n then dotT s n else dotT s n ++ (" " : Str) ++ sv l
  | _ => Str.empty
def valsT (ds : List PyData) : Str := ("(" : Str) ++ Txt.join (", " : Str) (ds.map fun d => quoT (sv d)) ++ (")" : Str)
def condT : PyData → Str
  | .tuple [.str z, a, .tuple ds] => if z = "equal" then cellT a ++ (" = " : Str) ++ cellT (.tuple ds) else cellT a ++ (" in " : Str) ++ valsT ds
  | _ => Str.empty
def selT (b : Bool) : Str := if b = true then "select distinct " else "select "
def whereT (cs : List PyData) : Str := if cs.isEmpty = true then Str.empty else (" where " : Str) ++ Txt.join (" and " : Str) (cs.map condT)
def writeT : PyData → Str
  | .tuple [.bool b, .tuple ts, .tuple ss, .tuple cs] => selT b ++ Txt.join (", " : Str) (ts.map toldT) ++ ((" from " : Str) ++ Txt.join (", " : Str) (ss.map srcT)) ++ whereT cs
  | _ => Str.empty
/-! ### reading a text gives back what was written -/
theorem cs_join1 (s a : Str) : cs (Txt.join s [a]) = cs a := by
  rfl
theorem fold_cs (s : Str) : ∀ (l : List Str) (acc : Array Nat), (l.foldl (fun acc p => acc ++ s.cps ++ p.cps) acc).toList = acc.toList ++ (l.map fun p => cs s ++ cs p).flatten
  | [], acc => by simp
  | p :: l, acc => by
    show (l.foldl (fun acc p => acc ++ s.cps ++ p.cps) (acc ++ s.cps ++ p.cps)).toList = _
    rw [fold_cs s l]
    simp [List.append_assoc]
theorem cs_join (s a : Str) (l : List Str) : cs (Txt.join s (a :: l)) = cs a ++ (l.map fun p => cs s ++ cs p).flatten := fold_cs s l a.cps
theorem name_head {z : Str} (h : valS z = true) : ∃ c t, cs z = c :: t ∧ lowC c = true := by
  obtain ⟨h1, _, h3⟩ := val_cs h
  cases e : cs z with
  | nil => rw [e] at h3; exact absurd h3 (by decide)
  | cons c t => rw [e] at h1; exact ⟨c, t, rfl, List.all_eq_true.mp h1 c (List.mem_cons_self ..)⟩
theorem tk_name {s : Str} {c : Nat} {t r : Cs} {z : Str} (e : cs s = c :: t) (hc : lowC c = false) (h : valS z = true) : tk s (cs z ++ r) = none := by
  obtain ⟨d, u, e2, hd⟩ := name_head h
  refine tk_none1 e fun d' e3 => ?_
  rw [e2] at e3
  cases e3
  intro z; rw [z, hc] at hd; exact Bool.noConfusion hd
theorem nnE {d : PyData} (h : nnD d = true) : d = .none ∨ namD d = true := by
  have h' : (isNone d || namD d) = true := h
  rw [Bool.or_eq_true] at h'
  rcases h' with h | h
  · cases d <;> first | exact .inl rfl | cases h
  · exact .inr h
/-- no letter and no dot stand next -/
def StopD (r : Cs) : Prop := ∀ c, r.head? = some c → lowC c = false ∧ c ≠ 46
theorem StopT.d {r : Cs} (h : StopT r) : StopD r := fun c e => by rcases h c e with rfl | rfl | rfl <;> exact ⟨by decide +kernel, by decide⟩
theorem StopD.stop {r : Cs} (h : StopD r) : Stop r := fun c e => (h c e).1
theorem pDot_cat {a b : PyData} {r : Cs} (ha : nnD a = true) (hb : namD b = true) (hr : StopD r) : pDot (cs (dotT a b) ++ r) = some ((a, b), r) := by
  obtain ⟨z, rfl, hz, _⟩ := namE hb
  rcases nnE ha with rfl | ha
  · show pDot (cs z ++ r) = _
    unfold pDot
    rw [pName_cat hb hr.stop]
    simp only [Option.bind_some, tk_none1 (s := ".") (c := 46) (t := []) (by decide +kernel) fun c e => (hr c e).2]
  · obtain ⟨y, rfl, hy, _⟩ := namE ha
    have e : cs (dotT (.str y) (.str z)) ++ r = cs y ++ (cs ("." : Str) ++ (cs z ++ r)) := by
      show cs (y ++ ("." : Str) ++ z) ++ r = _
      rw [cs_cat, cs_cat, List.append_assoc, List.append_assoc]
    rw [e]
    unfold pDot
    rw [pName_cat ha (fun c e => by cases e; decide +kernel)]
    simp only [Option.bind_some, tk_cat, pName_cat hb hr.stop, Option.map_some]
theorem tk_dot {s : Str} {c : Nat} {t r : Cs} {a b : PyData} (e : cs s = c :: t) (hc : lowC c = false) (ha : nnD a = true) (hb : namD b = true) : tk s (cs (dotT a b) ++ r) = none := by
  obtain ⟨z, rfl, hz, _⟩ := namE hb
  rcases nnE ha with rfl | ha
  · exact tk_name e hc hz
  · obtain ⟨y, rfl, hy, _⟩ := namE ha
    have e2 : cs (dotT (.str y) (.str z)) ++ r = cs y ++ (cs ("." : Str) ++ (cs z ++ r)) := by
      show cs (y ++ ("." : Str) ++ z) ++ r = _
      rw [cs_cat, cs_cat, List.append_assoc, List.append_assoc]
    rw [e2]
    exact tk_name e hc hy
theorem colE {d : PyData} (h : colD d = true) : ∃ a b, d = .tuple [a, b] ∧ nnD a = true ∧ namD b = true := by
  have h' : (pairD d && (nnD (at' d 0) && namD (at' d 1))) = true := h
  rw [Bool.and_eq_true, Bool.and_eq_true] at h'
  obtain ⟨h1, h2, h3⟩ := h'
  obtain ⟨ht, hl⟩ := tupN_tup h1
  cases d <;> try cases ht
  rename_i ds
  have hl' : ds.length = 2 := hl
  match ds, hl' with
  | [a, b], _ => exact ⟨a, b, rfl, h2, h3⟩
theorem eqSE {d : PyData} {z : Str} (h : eqS d z = true) : d = .str z := by
  cases d with
  | str y => have : y = z := by simpa [eqS] using h
             rw [this]
  | _ => cases h
theorem tupE {lo hi : Int} {f : PyData → Bool} {d : PyData} (h : tupD lo hi f d = true) : ∃ ds, d = .tuple ds ∧ lo ≤ ds.length ∧ (ds.length : Int) ≤ hi ∧ ∀ x ∈ ds, f x = true := by
  cases d with
  | tuple ds =>
    have h' : (decide (lo ≤ ds.length) && decide ((ds.length : Int) ≤ hi) && ds.all f) = true := h
    rw [Bool.and_eq_true, Bool.and_eq_true] at h'
    exact ⟨ds, rfl, of_decide_eq_true h'.1.1, of_decide_eq_true h'.1.2, List.all_eq_true.mp h'.2⟩
  | _ => cases h
theorem callE {k : Nat} {d : PyData} (h : callD k d = true) : ∃ j s n ts, k = j + 1 ∧ d = .tuple [.str "call", s, n, .tuple ts] ∧ nnD s = true ∧ namD n = true ∧ 1 ≤ ts.length ∧ ts.length ≤ 2 ∧ ∀ t ∈ ts, (colD t || valD t || callD j t) = true := by
  cases k with
  | zero => cases h
  | succ j =>
    have h' : (tupN d 4 && (eqS (at' d 0) "call" && nnD (at' d 1) && namD (at' d 2)) && tupD 1 2 (fun x => colD x || valD x || callD j x) (at' d 3)) = true := h
    simp only [Bool.and_eq_true] at h'
    obtain ⟨⟨h1, ⟨h2, h3⟩, h4⟩, h5⟩ := h'
    obtain ⟨ht, hl⟩ := tupN_tup h1
    cases d <;> try cases ht
    rename_i ds
    have hl' : ds.length = 4 := hl
    match ds, hl' with
    | [a, b, c, e], _ =>
      have e1 : a = .str "call" := eqSE h2
      obtain ⟨ts, e2, l1, l2, l3⟩ := tupE (d := e) h5
      subst e1 e2
      exact ⟨j, b, c, ts, rfl, rfl, h3, h4, by omega, by omega, l3⟩
theorem valE {d : PyData} (h : valD d = true) : ∃ z, d = .str z ∧ valS z = true := by
  cases d with
  | str z => exact ⟨z, rfl, h⟩
  | _ => cases h
theorem pTerm_col {k : Nat} {a b : PyData} {r : Cs} (ha : nnD a = true) (hb : namD b = true) (hr : StopT r) : pTerm k (cs (dotT a b) ++ r) = some (.tuple [a, b], r) := by
  have e1 : tk "'" (cs (dotT a b) ++ r) = none := tk_dot (s := "'") (c := 39) (t := []) (by decide +kernel) (by decide +kernel) ha hb
  have e2 : tk "(" r = none := tk_none1 (s := "(") (c := 40) (t := []) (by decide +kernel) fun c e => by rcases hr c e with rfl | rfl | rfl <;> decide
  unfold pTerm
  rw [e1, pDot_cat ha hb hr.d]
  simp only [Option.isSome_none, Bool.false_eq_true, if_false, Option.bind_some, e2]
theorem pTerm_val {k : Nat} {z : Str} {r : Cs} (h : valS z = true) : pTerm k (cs (quoT z) ++ r) = some (.str z, r) := by
  have e : cs (quoT z) ++ r = cs ("'" : Str) ++ (cs z ++ (cs ("'" : Str) ++ r)) := by
    show cs (("'" : Str) ++ z ++ ("'" : Str)) ++ r = _
    rw [cs_cat, cs_cat, List.append_assoc, List.append_assoc]
  rw [e]
  unfold pTerm
  rw [if_pos (by rw [tk_cat]; rfl)]
  exact pVal_cat h
theorem pTerm_cat : ∀ (k : Nat) {d : PyData}, (colD d || valD d || callD k d) = true → ∀ {r : Cs}, StopT r → pTerm k (cs (termT k d) ++ r) = some (d, r)
  | k, d, h, r, hr => by
    rw [Bool.or_eq_true, Bool.or_eq_true] at h
    rcases h with (h | h) | h
    · obtain ⟨a, b, rfl, ha, hb⟩ := colE h
      have e : termT k (.tuple [a, b]) = dotT a b := by cases k <;> rfl
      rw [e]
      exact pTerm_col ha hb hr
    · obtain ⟨z, rfl, hz⟩ := valE h
      have e : termT k (.str z) = quoT z := by cases k <;> rfl
      rw [e]
      exact pTerm_val hz
    · obtain ⟨j, s, n, ts, rfl, rfl, hs, hn, l1, l2, hts⟩ := callE h
      have e : cs (termT (j + 1) (.tuple [.str "call", s, n, .tuple ts])) ++ r = cs (dotT s n) ++ (cs ("(" : Str) ++ (cs (Txt.join (", " : Str) (ts.map (termT j))) ++ (cs (")" : Str) ++ r))) := by
        show cs (dotT s n ++ ("(" : Str) ++ Txt.join (", " : Str) (ts.map (termT j)) ++ (")" : Str)) ++ r = _
        rw [cs_cat, cs_cat, cs_cat, List.append_assoc, List.append_assoc, List.append_assoc]
      rw [e]
      have e1 : tk "'" (cs (dotT s n) ++ (cs ("(" : Str) ++ (cs (Txt.join (", " : Str) (ts.map (termT j))) ++ (cs (")" : Str) ++ r)))) = none := tk_dot (s := "'") (c := 39) (t := []) (by decide +kernel) (by decide +kernel) hs hn
      unfold pTerm
      rw [e1, pDot_cat hs hn (fun c e => by cases e; exact ⟨by decide +kernel, by decide⟩)]
      simp only [Option.isSome_none, Bool.false_eq_true, if_false, Option.bind_some, tk_cat]
      have st : StopT (cs (")" : Str) ++ r) := fun c e => by cases e; exact .inr (.inr rfl)
      have tn : tk ", " (cs (")" : Str) ++ r) = none := tk_none1 (s := ", ") (c := 44) (t := [32]) (by decide +kernel) fun c e => by cases e; decide
      match ts, l1, l2 with
      | [t1], _, _ =>
        have i1 := pTerm_cat j (hts t1 (List.mem_cons_self ..)) st
        simp only [List.map_cons, List.map_nil]
        rw [cs_join1, i1]
        simp only [Option.bind_some, tn, tk_cat, Option.map_some]
      | [t1, t2], _, _ =>
        have e2 : cs (Txt.join (", " : Str) [termT j t1, termT j t2]) ++ (cs (")" : Str) ++ r) = cs (termT j t1) ++ (cs (", " : Str) ++ (cs (termT j t2) ++ (cs (")" : Str) ++ r))) := by
          rw [cs_join]
          simp [List.append_assoc]
        have i1 := pTerm_cat j (hts t1 (List.mem_cons_self ..)) (r := cs (", " : Str) ++ (cs (termT j t2) ++ (cs (")" : Str) ++ r))) (fun c e => by cases e; exact .inr (.inl rfl))
        have i2 := pTerm_cat j (hts t2 (List.mem_cons_of_mem _ (List.mem_cons_self ..))) st
        simp only [List.map_cons, List.map_nil]
        rw [e2, i1]
        simp only [Option.bind_some, tk_cat, i2, Option.map_some]
end My

namespace My
open PySem PySem.Spec PyProof.Rows L2
theorem cat3 (a b c : Str) (r : Cs) : cs (a ++ b ++ c) ++ r = cs a ++ (cs b ++ (cs c ++ r)) := by rw [cs_cat, cs_cat, List.append_assoc, List.append_assoc]
theorem cat2 (a b : Str) (r : Cs) : cs (a ++ b) ++ r = cs a ++ (cs b ++ r) := by rw [cs_cat, List.append_assoc]
theorem at2 {d : PyData} {n : Nat} (h : tupN d n = true) : ∃ ds, d = .tuple ds ∧ ds.length = n := by
  obtain ⟨ht, hl⟩ := tupN_tup h
  cases d <;> try cases ht
  exact ⟨_, rfl, hl⟩
theorem toldE {d : PyData} (h : toldD d = true) : (∃ n, d = .tuple [.str "star", n] ∧ namD n = true) ∨ (∃ c n, d = .tuple [.str "column", c, n] ∧ colD c = true ∧ namD n = true) ∨
    ∃ t n, d = .tuple [.str "term", t, n] ∧ (valD t = true ∨ callD 3 t = true) ∧ namD n = true := by
  have h' : (if pairD d then eqS (at' d 0) "star" && namD (at' d 1) else tupN d 3 && namD (at' d 2) && (if eqS (at' d 0) "column" then colD (at' d 1) else eqS (at' d 0) "term" && (valD (at' d 1) || callD 3 (at' d 1)))) = true := h
  by_cases p : pairD d = true
  · rw [if_pos p, Bool.and_eq_true] at h'
    obtain ⟨ds, rfl, hl⟩ := at2 p
    match ds, hl with
    | [a, b], _ =>
      have e1 : a = .str "star" := eqSE h'.1
      subst e1
      exact .inl ⟨b, rfl, h'.2⟩
  · rw [if_neg p, Bool.and_eq_true, Bool.and_eq_true] at h'
    obtain ⟨⟨h1, h2⟩, h3⟩ := h'
    obtain ⟨ds, rfl, hl⟩ := at2 h1
    match ds, hl with
    | [a, b, c], _ =>
      by_cases q : eqS (at' (.tuple [a, b, c]) 0) "column" = true
      · rw [if_pos q] at h3
        have e1 : a = .str "column" := eqSE q
        subst e1
        exact .inr (.inl ⟨b, c, rfl, h3, h2⟩)
      · rw [if_neg q, Bool.and_eq_true, Bool.or_eq_true] at h3
        have e1 : a = .str "term" := eqSE h3.1
        subst e1
        exact .inr (.inr ⟨b, c, rfl, h3.2, h2⟩)
theorem srcE {d : PyData} (h : srcD d = true) : ∃ s n l, d = .tuple [s, n, l] ∧ nnD s = true ∧ namD n = true ∧ namD l = true := by
  have h' : (tupN d 3 && (nnD (at' d 0) && namD (at' d 1) && namD (at' d 2))) = true := h
  simp only [Bool.and_eq_true] at h'
  obtain ⟨h1, ⟨h2, h3⟩, h4⟩ := h'
  obtain ⟨ds, rfl, hl⟩ := at2 h1
  match ds, hl with
  | [a, b, c], _ => exact ⟨a, b, c, rfl, h2, h3, h4⟩
theorem condE {d : PyData} (h : condD d = true) : (∃ a b, d = .tuple [.str "equal", a, b] ∧ colD a = true ∧ colD b = true) ∨ ∃ a ds, d = .tuple [.str "in", a, .tuple ds] ∧ colD a = true ∧ 1 ≤ ds.length ∧ ds.length ≤ 8 ∧ ∀ x ∈ ds, valD x = true := by
  have h' : (tupN d 3 && colD (at' d 1) && (if eqS (at' d 0) "equal" then colD (at' d 2) else eqS (at' d 0) "in" && valsD (at' d 2))) = true := h
  rw [Bool.and_eq_true, Bool.and_eq_true] at h'
  obtain ⟨⟨h1, h2⟩, h3⟩ := h'
  obtain ⟨ds, rfl, hl⟩ := at2 h1
  match ds, hl with
  | [a, b, c], _ =>
    by_cases q : eqS (at' (.tuple [a, b, c]) 0) "equal" = true
    · rw [if_pos q] at h3
      have e1 : a = .str "equal" := eqSE q
      subst e1
      exact .inl ⟨b, c, rfl, h2, h3⟩
    · rw [if_neg q, Bool.and_eq_true] at h3
      have e1 : a = .str "in" := eqSE h3.1
      subst e1
      have h4 : valsD c = true := h3.2
      obtain ⟨ds, rfl⟩ : ∃ ds, c = .tuple ds := by cases c <;> first | exact ⟨_, rfl⟩ | cases h4
      have h5 : (decide (1 ≤ ds.length) && decide (ds.length ≤ 8) && ds.all valD && ascS (ds.map strOf)) = true := h4
      simp only [Bool.and_eq_true, decide_eq_true_eq] at h5
      exact .inr ⟨b, ds, rfl, h2, h5.1.1.1, h5.1.1.2, List.all_eq_true.mp h5.1.2⟩
theorem stE {d : PyData} (h : stD d = true) : ∃ b ts ss cc, d = .tuple [.bool b, .tuple ts, .tuple ss, .tuple cc] ∧ (1 ≤ ts.length ∧ ts.length ≤ 8 ∧ ∀ x ∈ ts, toldD x = true) ∧ (1 ≤ ss.length ∧ ss.length ≤ 4 ∧ ∀ x ∈ ss, srcD x = true) ∧ cc.length ≤ 8 ∧ ∀ x ∈ cc, condD x = true := by
  have h' : (tupN d 4 && (isBoo (at' d 0) && tupD 1 8 toldD (at' d 1) && tupD 1 4 srcD (at' d 2) && decide (labs (at' d 2) 2).Nodup && tupD 0 8 condD (at' d 3))) = true := h
  simp only [Bool.and_eq_true] at h'
  obtain ⟨h1, ⟨⟨⟨h2, h3⟩, h4⟩, _⟩, h5⟩ := h'
  obtain ⟨ds, rfl, hl⟩ := at2 h1
  match ds, hl with
  | [a, b, c, e], _ =>
    have h2' : isBoo a = true := h2
    obtain ⟨ts, e1, l1, l2, l3⟩ := tupE (d := b) h3
    obtain ⟨ss, e2, m1, m2, m3⟩ := tupE (d := c) h4
    obtain ⟨cc, e3, n1, n2, n3⟩ := tupE (d := e) h5
    subst e1 e2 e3
    cases a <;> try cases h2'
    exact ⟨_, ts, ss, cc, rfl, ⟨by omega, by omega, l3⟩, ⟨by omega, by omega, m3⟩, by omega, n3⟩
/-! a list of things -/
theorem pMore_cat {p : Cs → Option (PyData × Cs)} {sep : Str} {T : PyData → Str} {Good : Cs → Prop} (hg : ∀ r, Good (cs sep ++ r)) {r : Cs} (gr : Good r) (hr : tk sep r = none) :
    ∀ (ds : List PyData) (n : Nat), ds.length ≤ n → (∀ d ∈ ds, ∀ r', Good r' → p (cs (T d) ++ r') = some (d, r')) → pMore p sep n ((ds.map fun d => cs sep ++ cs (T d)).flatten ++ r) = some (ds, r)
  | [], n, _, _ => by
    show pMore p sep n r = _
    unfold pMore
    rw [hr]
  | d :: ds, 0, h, _ => absurd h (by simp)
  | d :: ds, n + 1, h, k => by
    have e : ((d :: ds).map fun d => cs sep ++ cs (T d)).flatten ++ r = cs sep ++ (cs (T d) ++ ((ds.map fun d => cs sep ++ cs (T d)).flatten ++ r)) := by
      rw [List.map_cons, List.flatten_cons, List.append_assoc, List.append_assoc]
    rw [e]
    unfold pMore
    rw [tk_cat]
    have g2 : Good ((ds.map fun d => cs sep ++ cs (T d)).flatten ++ r) := by
      cases ds with
      | nil => exact gr
      | cons x ds => rw [List.map_cons, List.flatten_cons, List.append_assoc, List.append_assoc]; exact hg _
    have i1 := k d (List.mem_cons_self ..) _ g2
    have i2 := pMore_cat hg gr hr ds n (by simpa using h) fun x hx => k x (List.mem_cons_of_mem _ hx)
    simp only [i1, Option.bind_some, i2, Option.map_some]
theorem pList_cat {p : Cs → Option (PyData × Cs)} {sep : Str} {T : PyData → Str} {Good : Cs → Prop} (hg : ∀ r, Good (cs sep ++ r)) {r : Cs} (gr : Good r) (hr : tk sep r = none) {ds : List PyData} {n : Nat} (l1 : 1 ≤ ds.length) (l2 : ds.length ≤ n)
    (k : ∀ d ∈ ds, ∀ r', Good r' → p (cs (T d) ++ r') = some (d, r')) : pList p sep n (cs (Txt.join sep (ds.map T)) ++ r) = some (ds, r) := by
  cases ds with
  | nil => exact absurd l1 (by decide)
  | cons d ds =>
    have e : cs (Txt.join sep ((d :: ds).map T)) ++ r = cs (T d) ++ ((ds.map fun d => cs sep ++ cs (T d)).flatten ++ r) := by
      rw [List.map_cons, cs_join, List.map_map, List.append_assoc]
      rfl
    have g2 : Good ((ds.map fun d => cs sep ++ cs (T d)).flatten ++ r) := by
      cases ds with
      | nil => exact gr
      | cons x ds => rw [List.map_cons, List.flatten_cons, List.append_assoc, List.append_assoc]; exact hg _
    rw [e]
    unfold pList
    rw [k d (List.mem_cons_self ..) _ g2]
    have i2 := pMore_cat hg gr hr ds (n - 1) (by have : ds.length + 1 ≤ n := l2; omega) fun x hx => k x (List.mem_cons_of_mem _ hx)
    simp only [Option.bind_some, i2, Option.map_some]
/-! told things -/
def GoodTo (r : Cs) : Prop := StopT r ∧ tk " as " r = none
theorem as_comma (r : Cs) : tk " as " (cs (", " : Str) ++ r) = none := tk_none1 (s := " as ") (c := 32) (t := cs ("as " : Str)) (by decide +kernel) fun c e => by cases e; decide
theorem pTold1_cat {t : PyData} {n : PyData} {r : Cs} (ht : (colD t || valD t || callD 3 t) = true) (hn : namD n = true) (hr : StopT r) (hc : colD t = false) :
    pTold1 (cs (termT 3 t ++ (" as " : Str) ++ sv n) ++ r) = some (.tuple [.str "term", t, n], r) := by
  obtain ⟨z, rfl, _⟩ := namE hn
  rw [cat3]
  unfold pTold1
  rw [pTerm_cat 3 ht (r := cs (" as " : Str) ++ (cs (sv (.str z)) ++ r)) (fun c e => by cases e; exact .inl rfl)]
  simp only [Option.bind_some, hc, Bool.false_eq_true, if_false, tk_cat]
  show (pName (cs z ++ r)).map _ = _
  rw [pName_cat hn hr.stop]
  rfl
theorem not_col_val {t : PyData} (h : valD t = true) : colD t = false := by
  obtain ⟨z, rfl, _⟩ := valE h
  rfl
theorem not_col_call {k : Nat} {t : PyData} (h : callD k t = true) : colD t = false := by
  obtain ⟨j, s, n, ts, rfl, rfl, _⟩ := callE h
  rfl
/-- a told thing that begins as a name does: no star -/
theorem pTold_dot {a b : PyData} {r : Cs} (ha : nnD a = true) (hb : namD b = true) (hr : ∀ c, r.head? = some c → lowC c = false ∧ c ≠ 46) : pTold (cs (dotT a b) ++ r) = pTold1 (cs (dotT a b) ++ r) := by
  have e1 : tk "'" (cs (dotT a b) ++ r) = none := tk_dot (s := "'") (c := 39) (t := []) (by decide +kernel) (by decide +kernel) ha hb
  unfold pTold
  rw [e1]
  simp only [Option.isSome_none, Bool.false_eq_true, if_false]
  obtain ⟨z, rfl, hz, _⟩ := namE hb
  rcases nnE ha with rfl | ha
  · show (pName (cs z ++ r)).bind _ = _
    rw [pName_cat hb fun c e => (hr c e).1]
    have : tk ".*" r = none := tk_none1 (s := ".*") (c := 46) (t := [42]) (by decide +kernel) fun c e => (hr c e).2
    simp only [Option.bind_some, this]
  · obtain ⟨y, rfl, hy, _⟩ := namE ha
    have e2 : cs (dotT (.str y) (.str z)) ++ r = cs y ++ (cs ("." : Str) ++ (cs z ++ r)) := cat3 _ _ _ _
    rw [e2, pName_cat ha (fun c e => by cases e; decide +kernel)]
    obtain ⟨c, u, e3, hc⟩ := name_head hz
    have : tk ".*" (cs ("." : Str) ++ (cs z ++ r)) = none := by
      rw [e3]
      exact tk_none2 (s := ".*") (a := 46) (b := 42) (c := 46) (d := c) (t := []) (u := u ++ r) (by decide +kernel) fun e => by rw [← e] at hc; exact absurd hc (by decide +kernel)
    simp only [Option.bind_some, this]
theorem head_as (r : Cs) : ∀ c, (cs (" as " : Str) ++ r).head? = some c → lowC c = false ∧ c ≠ 46 := fun c e => by cases e; exact ⟨by decide +kernel, by decide⟩
theorem pTold_cat {d : PyData} (h : toldD d = true) {r : Cs} (hr : GoodTo r) : pTold (cs (toldT d) ++ r) = some (d, r) := by
  rcases toldE h with ⟨n, rfl, hn⟩ | ⟨c, n, rfl, hc, hn⟩ | ⟨t, n, rfl, ht, hn⟩
  · obtain ⟨z, rfl, hz, _⟩ := namE hn
    show pTold (cs (z ++ (".*" : Str)) ++ r) = _
    rw [cat2]
    have e1 : tk "'" (cs z ++ (cs (".*" : Str) ++ r)) = none := tk_name (s := "'") (c := 39) (t := []) (by decide +kernel) (by decide +kernel) hz
    unfold pTold
    rw [e1, pName_cat hn (fun c e => by cases e; decide +kernel)]
    simp only [Option.isSome_none, Bool.false_eq_true, if_false, Option.bind_some, tk_cat]
  · obtain ⟨a, b, rfl, ha, hb⟩ := colE hc
    have e0 : toldT (.tuple [.str "column", .tuple [a, b], n]) = if sv b = sv n then dotT a b else dotT a b ++ (" as " : Str) ++ sv n := rfl
    obtain ⟨z, rfl, hz, _⟩ := namE hn
    obtain ⟨y, rfl, hy, _⟩ := namE hb
    rw [e0]
    by_cases e : sv (.str y) = sv (.str z)
    · rw [if_pos e]
      have e' : y = z := e
      subst e'
      rw [pTold_dot ha hb hr.1.d]
      unfold pTold1
      rw [pTerm_col ha hb hr.1]
      simp only [Option.bind_some, hc, if_true, hr.2]
      rfl
    · rw [if_neg e, cat3, pTold_dot ha hb (head_as _)]
      unfold pTold1
      rw [pTerm_col ha hb (r := cs (" as " : Str) ++ (cs (sv (.str z)) ++ r)) (fun c e => by cases e; exact .inl rfl)]
      simp only [Option.bind_some, hc, if_true, tk_cat]
      show (pName (cs z ++ r)).map _ = _
      rw [pName_cat hn hr.1.stop]
      rfl
  · have ht' : (colD t || valD t || callD 3 t) = true := by rcases ht with h | h <;> simp [h]
    have hc : colD t = false := by rcases ht with h | h; exact not_col_val h; exact not_col_call h
    have e0 : toldT (.tuple [.str "term", t, n]) = termT 3 t ++ (" as " : Str) ++ sv n := by
      rcases ht with h | h
      · obtain ⟨z, rfl, _⟩ := valE h; rfl
      · obtain ⟨j, s, m, ts, e, rfl, _⟩ := callE h; rfl
    rw [e0]
    have k := pTold1_cat ht' hn hr.1 hc
    rcases ht with h | h
    · obtain ⟨z, rfl, hz⟩ := valE h
      rw [← k, cat3]
      have e1 : (tk "'" (cs (termT 3 (.str z)) ++ (cs (" as " : Str) ++ (cs (sv n) ++ r)))).isSome = true := by
        have : cs (termT 3 (.str z)) ++ (cs (" as " : Str) ++ (cs (sv n) ++ r)) = cs ("'" : Str) ++ (cs z ++ (cs ("'" : Str) ++ (cs (" as " : Str) ++ (cs (sv n) ++ r)))) := cat3 _ _ _ _
        rw [this, tk_cat]; rfl
      unfold pTold
      rw [if_pos e1]
    · obtain ⟨j, s, m, ts, e, rfl, hs, hm, _⟩ := callE h
      rw [← k, cat3]
      have : cs (termT 3 (.tuple [.str "call", s, m, .tuple ts])) ++ (cs (" as " : Str) ++ (cs (sv n) ++ r)) = cs (dotT s m) ++ (cs ("(" : Str) ++ (cs (Txt.join (", " : Str) (ts.map (termT 2))) ++ (cs (")" : Str) ++ (cs (" as " : Str) ++ (cs (sv n) ++ r))))) := by
        show cs (dotT s m ++ ("(" : Str) ++ Txt.join (", " : Str) (ts.map (termT 2)) ++ (")" : Str)) ++ _ = _
        rw [cs_cat, cs_cat, cs_cat, List.append_assoc, List.append_assoc, List.append_assoc]
      rw [this]
      exact pTold_dot hs hm fun c e => by cases e; exact ⟨by decide +kernel, by decide⟩
/-! sources -/
def GoodS (r : Cs) : Prop := StopT r ∧ ((tk " where " r).isSome = true ∨ ((tk " where " r) = none ∧ tk " " r = none))
/-- a word that stands whole -/
theorem word_eq {l w r u : Cs} (hl : l.all lowC = true) (hw : w.all lowC = true) (hr : Stop r) (hu : Stop u) (e : l ++ r = w ++ u) : l = w := by
  have h1 := takeWhile_stop hl hr
  rw [e, takeWhile_stop hw hu] at h1
  exact h1.symm
theorem where_no {z : Str} (h : namD (.str z) = true) {r : Cs} (hr : Stop r) : tk " where " (cs (" " : Str) ++ (cs z ++ r)) = none := by
  obtain ⟨_, e, hv, hn⟩ := namE h
  cases e
  cases q : tk " where " (cs (" " : Str) ++ (cs z ++ r)) with
  | none => rfl
  | some u =>
    exfalso
    unfold tk at q
    split at q
    · rename_i hp
      obtain ⟨u2, e2⟩ := List.isPrefixOf_iff_prefix.mp hp
      have e3 : cs (" where " : Str) = cs (" " : Str) ++ (cs ("where" : Str) ++ cs (" " : Str)) := by decide +kernel
      rw [e3, List.append_assoc, List.append_assoc] at e2
      have e4 := List.append_cancel_left e2
      have := word_eq (val_cs hv).1 (w := cs ("where" : Str)) (by decide +kernel) hr (u := cs (" " : Str) ++ u2) (fun c e => by cases e; decide +kernel) e4.symm
      have e5 : z = "where" := by rw [← mkS_cs z, this]; exact mkS_cs _
      rw [e5] at hn
      exact hn (by decide +kernel)
    · cases q
theorem pSource_cat {d : PyData} (h : srcD d = true) {r : Cs} (hr : GoodS r) : pSource (cs (srcT d) ++ r) = some (d, r) := by
  obtain ⟨s, n, l, rfl, hs, hn, hl⟩ := srcE h
  obtain ⟨y, rfl, hy, _⟩ := namE hn
  obtain ⟨z, rfl, hz, _⟩ := namE hl
  have e0 : srcT (.tuple [s, .str y, .str z]) = if sv (.str z) = sv (.str y) then dotT s (.str y) else dotT s (.str y) ++ (" " : Str) ++ sv (.str z) := rfl
  rw [e0]
  by_cases e : sv (.str z) = sv (.str y)
  · have e' : z = y := e
    subst e'
    rw [if_pos e]
    unfold pSource
    rw [pDot_cat hs hn hr.1.d]
    rcases hr.2 with h1 | ⟨h1, h2⟩
    · simp only [Option.bind_some, h1, if_true]
    · simp only [Option.bind_some, h1, Option.isSome_none, Bool.false_eq_true, if_false, h2]
  · rw [if_neg e, cat3]
    unfold pSource
    rw [pDot_cat hs hn (r := cs (" " : Str) ++ (cs (sv (.str z)) ++ r)) (fun c e => by cases e; exact ⟨by decide +kernel, by decide⟩)]
    have w := where_no hl hr.1.stop
    have w' : tk " where " (cs (" " : Str) ++ (cs (sv (.str z)) ++ r)) = none := w
    simp only [Option.bind_some, w', Option.isSome_none, Bool.false_eq_true, if_false, tk_cat]
    show (pName (cs z ++ r)).map _ = _
    rw [pName_cat hl hr.1.stop]
    rfl
/-! conditions -/
theorem pCond_cat {d : PyData} (h : condD d = true) {r : Cs} (hr : StopT r) : pCond (cs (condT d) ++ r) = some (d, r) := by
  rcases condE h with ⟨a, b, rfl, ha, hb⟩ | ⟨a, ds, rfl, ha, l1, l2, hds⟩
  · obtain ⟨a1, a2, rfl, ha1, ha2⟩ := colE ha
    obtain ⟨b1, b2, rfl, hb1, hb2⟩ := colE hb
    have e0 : condT (.tuple [.str "equal", .tuple [a1, a2], .tuple [b1, b2]]) = dotT a1 a2 ++ (" = " : Str) ++ dotT b1 b2 := rfl
    rw [e0, cat3]
    unfold pCond
    rw [pDot_cat ha1 ha2 (r := cs (" = " : Str) ++ (cs (dotT b1 b2) ++ r)) (fun c e => by cases e; exact ⟨by decide +kernel, by decide⟩)]
    simp only [Option.bind_some, tk_cat]
    rw [pDot_cat hb1 hb2 hr.d]
    rfl
  · obtain ⟨a1, a2, rfl, ha1, ha2⟩ := colE ha
    have e0 : cs (condT (.tuple [.str "in", .tuple [a1, a2], .tuple ds])) ++ r = cs (dotT a1 a2) ++ (cs (" in (" : Str) ++ (cs (Txt.join (", " : Str) (ds.map fun d => quoT (sv d))) ++ (cs (")" : Str) ++ r))) := by
      have : condT (.tuple [.str "in", .tuple [a1, a2], .tuple ds]) = dotT a1 a2 ++ (" in " : Str) ++ valsT ds := by
        show (if ("in" : Str) = "equal" then cellT (.tuple [a1, a2]) ++ (" = " : Str) ++ cellT (.tuple ds) else cellT (.tuple [a1, a2]) ++ (" in " : Str) ++ valsT ds) = _
        rw [if_neg (by decide +kernel)]
        rfl
      rw [this]
      unfold valsT
      have e2 : cs (" in (" : Str) = cs (" in " : Str) ++ cs ("(" : Str) := by decide +kernel
      rw [cat3, cs_cat, cs_cat, e2]
      simp only [List.append_assoc]
    rw [e0]
    unfold pCond
    rw [pDot_cat ha1 ha2 (r := cs (" in (" : Str) ++ (cs (Txt.join (", " : Str) (ds.map fun d => quoT (sv d))) ++ (cs (")" : Str) ++ r))) (fun c e => by cases e; exact ⟨by decide +kernel, by decide⟩)]
    have n1 : tk " = " (cs (" in (" : Str) ++ (cs (Txt.join (", " : Str) (ds.map fun d => quoT (sv d))) ++ (cs (")" : Str) ++ r))) = none := by
      have e3 : cs (" in (" : Str) = 32 :: 105 :: [110, 32, 40] := by decide +kernel
      rw [e3]
      exact tk_none2 (s := " = ") (a := 32) (b := 61) (c := 32) (d := 105) (t := [32]) (by decide +kernel) (by decide)
    have i := pList_cat (p := pVal) (sep := ", ") (T := fun d => quoT (sv d)) (Good := fun _ => True) (fun _ => trivial) (r := cs (")" : Str) ++ r) trivial (tk_none1 (s := ", ") (c := 44) (t := [32]) (by decide +kernel) fun c e => by cases e; decide) (n := 8) l1 l2 (fun x hx r' _ => by
      obtain ⟨z, rfl, hz⟩ := valE (hds x hx)
      show pVal (cs (("'" : Str) ++ z ++ ("'" : Str)) ++ r') = _
      rw [cat3]
      exact pVal_cat hz)
    simp only [Option.bind_some, n1, tk_cat]
    rw [i]
    simp only [Option.bind_some, tk_cat, Option.map_some]
/-! statements -/
theorem first_told {d : PyData} (h : toldD d = true) (r : Cs) (hr : StopT r) : tk "distinct " (cs (toldT d) ++ r) = none := by
  cases q : tk "distinct " (cs (toldT d) ++ r) with
  | none => rfl
  | some u =>
    exfalso
    unfold tk at q
    split at q
    · rename_i hp
      obtain ⟨u2, e2⟩ := List.isPrefixOf_iff_prefix.mp hp
      have e3 : cs ("distinct " : Str) = cs ("distinct" : Str) ++ cs (" " : Str) := by decide +kernel
      rw [e3, List.append_assoc] at e2
      have no : ∀ {z : Str} {r' : Cs}, namD (.str z) = true → Stop r' → cs z ++ r' = cs (toldT d) ++ r → False := fun {z r'} hn st e => by
        obtain ⟨_, e', hv, hm⟩ := namE hn
        cases e'
        have := word_eq (val_cs hv).1 (w := cs ("distinct" : Str)) (by decide +kernel) st (u := cs (" " : Str) ++ u2) (fun c e => by cases e; decide +kernel) (e.trans e2.symm)
        have e5 : z = "distinct" := by rw [← mkS_cs z, this]; exact mkS_cs _
        rw [e5] at hm
        exact hm (by decide +kernel)
      have nd : ∀ {a b : PyData} {r' : Cs}, nnD a = true → namD b = true → Stop r' → cs (dotT a b) ++ r' = cs (toldT d) ++ r → False := fun {a b r'} ha hb st e => by
        obtain ⟨z, rfl, hz, _⟩ := namE hb
        rcases nnE ha with rfl | ha
        · exact no hb st e
        · obtain ⟨y, rfl, hy, _⟩ := namE ha
          exact no ha (r' := cs ("." : Str) ++ (cs z ++ r')) (fun c e => by cases e; decide +kernel) ((cat3 _ _ _ _).symm.trans e)
      rcases toldE h with ⟨n, rfl, hn⟩ | ⟨c, n, rfl, hc, hn⟩ | ⟨t, n, rfl, ht, hn⟩
      · obtain ⟨z, rfl, hz, _⟩ := namE hn
        exact no hn (r' := cs (".*" : Str) ++ r) (fun c e => by cases e; decide +kernel) (cat2 z (".*" : Str) r).symm
      · obtain ⟨a, b, rfl, ha, hb⟩ := colE hc
        have e0 : toldT (.tuple [.str "column", .tuple [a, b], n]) = if sv b = sv n then dotT a b else dotT a b ++ (" as " : Str) ++ sv n := rfl
        by_cases e : sv b = sv n
        · exact nd ha hb hr.stop (by rw [e0, if_pos e])
        · exact nd ha hb (r' := cs (" as " : Str) ++ (cs (sv n) ++ r)) (fun c e => by cases e; decide +kernel) (by rw [e0, if_neg e, cat3])
      · rcases ht with h | h
        · obtain ⟨z, rfl, hz⟩ := valE h
          have e4 : cs (toldT (.tuple [.str "term", .str z, n])) ++ r = cs ("'" : Str) ++ (cs z ++ (cs ("'" : Str) ++ (cs (" as " : Str) ++ (cs (sv n) ++ r)))) := by
            show cs (quoT z ++ (" as " : Str) ++ sv n) ++ r = _
            rw [cat3]
            exact cat3 _ _ _ _
          rw [e4] at e2
          have e5 : cs ("distinct" : Str) = 100 :: cs ("istinct" : Str) := by decide +kernel
          have e6 : cs ("'" : Str) = [39] := by decide +kernel
          rw [e5, e6] at e2
          injection e2 with e7 _
          exact absurd e7 (by decide)
        · obtain ⟨j, s, m, ts, e, rfl, hs, hm, _⟩ := callE h
          refine nd hs hm (r' := cs ("(" : Str) ++ (cs (Txt.join (", " : Str) (ts.map (termT 2))) ++ (cs (")" : Str) ++ (cs (" as " : Str) ++ (cs (sv n) ++ r))))) (fun c e => by cases e; decide +kernel) ?_
          show _ = cs (dotT s m ++ ("(" : Str) ++ Txt.join (", " : Str) (ts.map (termT 2)) ++ (")" : Str) ++ (" as " : Str) ++ sv n) ++ r
          rw [cs_cat, cs_cat, cs_cat, cs_cat, cs_cat]
          simp only [List.append_assoc]
    · cases q
end My

namespace My
open PySem PySem.Spec PyProof.Rows L2
theorem tk_nil {s : Str} {c : Nat} {t : Cs} (e : cs s = c :: t) : tk s [] = none := tk_none1 e fun d h => by cases h
theorem stop_nil : StopT [] := fun c e => by cases e
theorem where_cs (cc : List PyData) (h : cc ≠ []) : cs (whereT cc) = cs (" where " : Str) ++ cs (Txt.join (" and " : Str) (cc.map condT)) := by
  cases cc with
  | nil => exact absurd rfl h
  | cons c cc =>
    show cs ((" where " : Str) ++ Txt.join (" and " : Str) ((c :: cc).map condT)) = _
    rw [cs_cat]
theorem where_nil : cs (whereT []) = [] := rfl
theorem goodS_where (cc : List PyData) : GoodS (cs (whereT cc)) ∧ tk ", " (cs (whereT cc)) = none := by
  by_cases h : cc = []
  · subst h
    rw [where_nil]
    exact ⟨⟨stop_nil, .inr ⟨tk_nil (s := " where ") (c := 32) (t := cs ("where " : Str)) (by decide +kernel), tk_nil (s := " ") (c := 32) (t := []) (by decide +kernel)⟩⟩, tk_nil (s := ", ") (c := 44) (t := [32]) (by decide +kernel)⟩
  · rw [where_cs cc h]
    exact ⟨⟨fun c e => by cases e; exact .inl rfl, .inl (by rw [tk_cat]; rfl)⟩, tk_none1 (s := ", ") (c := 44) (t := [32]) (by decide +kernel) fun c e => by cases e; decide⟩
theorem goodS_comma (r : Cs) : GoodS (cs (", " : Str) ++ r) :=
  ⟨fun c e => by cases e; exact .inr (.inl rfl), .inr ⟨tk_none1 (s := " where ") (c := 32) (t := cs ("where " : Str)) (by decide +kernel) fun c e => by cases e; decide, tk_none1 (s := " ") (c := 32) (t := []) (by decide +kernel) fun c e => by cases e; decide⟩⟩
theorem pTail_cat {b : Bool} {ts ss cc : List PyData} (l1 : 1 ≤ ss.length) (l2 : ss.length ≤ 4) (hs : ∀ x ∈ ss, srcD x = true) (l3 : cc.length ≤ 8) (hc : ∀ x ∈ cc, condD x = true) :
    pTail b ts (cs (" from " : Str) ++ (cs (Txt.join (", " : Str) (ss.map srcT)) ++ cs (whereT cc))) = some (.tuple [.bool b, .tuple ts, .tuple ss, .tuple cc], []) := by
  unfold pTail
  rw [tk_cat]
  have i := pList_cat (p := pSource) (sep := ", ") (T := srcT) (Good := GoodS) goodS_comma (goodS_where cc).1 (goodS_where cc).2 l1 l2 fun x hx r' g => pSource_cat (hs x hx) g
  simp only [Option.bind_some, i]
  by_cases h : cc = []
  · subst h
    rw [where_nil, tk_nil (s := " where ") (c := 32) (t := cs ("where " : Str)) (by decide +kernel)]
  · rw [where_cs cc h, tk_cat]
    have l4 : 1 ≤ cc.length := by cases cc with | nil => exact absurd rfl h | cons _ _ => exact Nat.succ_le_succ (Nat.zero_le _)
    have j := pList_cat (p := pCond) (sep := " and ") (T := condT) (Good := StopT) (fun r c e => by cases e; exact .inl rfl) stop_nil (tk_nil (s := " and ") (c := 32) (t := cs ("and " : Str)) (by decide +kernel)) l4 l3 fun x hx r' g => pCond_cat (hc x hx) g
    rw [List.append_nil] at j
    simp only [j, Option.map_some]
theorem goodT_from (r : Cs) : GoodTo (cs (" from " : Str) ++ r) := ⟨fun c e => by cases e; exact .inl rfl, by
  have e3 : cs (" from " : Str) = 32 :: 102 :: cs ("rom " : Str) := by decide +kernel
  rw [e3]
  exact tk_none2 (s := " as ") (a := 32) (b := 97) (c := 32) (d := 102) (t := cs ("s " : Str)) (by decide +kernel) (by decide)⟩
theorem goodT_comma (r : Cs) : GoodTo (cs (", " : Str) ++ r) := ⟨fun c e => by cases e; exact .inr (.inl rfl), as_comma r⟩
/-- what was written is read -/
theorem pStmt_cat {d : PyData} (h : stD d = true) : pStmt (cs (writeT d)) = some (d, []) := by
  obtain ⟨b, ts, ss, cc, rfl, ⟨l1, l2, ht⟩, ⟨m1, m2, hs⟩, n2, hc⟩ := stE h
  have e : cs (writeT (.tuple [.bool b, .tuple ts, .tuple ss, .tuple cc])) = cs (selT b) ++ (cs (Txt.join (", " : Str) (ts.map toldT)) ++ (cs (" from " : Str) ++ (cs (Txt.join (", " : Str) (ss.map srcT)) ++ cs (whereT cc)))) := by
    show cs (selT b ++ Txt.join (", " : Str) (ts.map toldT) ++ ((" from " : Str) ++ Txt.join (", " : Str) (ss.map srcT)) ++ whereT cc) = _
    rw [cs_cat, cs_cat, cs_cat, cs_cat]
    simp only [List.append_assoc]
  have i := pList_cat (p := pTold) (sep := ", ") (T := toldT) (Good := GoodTo) goodT_comma (goodT_from (cs (Txt.join (", " : Str) (ss.map srcT)) ++ cs (whereT cc))) (tk_none1 (s := ", ") (c := 44) (t := [32]) (by decide +kernel) fun c e => by cases e; decide) l1 l2 fun x hx r' g => pTold_cat (ht x hx) g
  have j := pTail_cat (b := b) (ts := ts) m1 m2 hs n2 hc
  rw [e]
  unfold pStmt
  cases b with
  | true =>
    have e2 : cs (selT true) = cs ("select " : Str) ++ cs ("distinct " : Str) := by decide +kernel
    rw [e2, List.append_assoc, tk_cat]
    have e3 : pSel (cs ("distinct " : Str) ++ (cs (Txt.join (", " : Str) (ts.map toldT)) ++ (cs (" from " : Str) ++ (cs (Txt.join (", " : Str) (ss.map srcT)) ++ cs (whereT cc))))) = (true, cs (Txt.join (", " : Str) (ts.map toldT)) ++ (cs (" from " : Str) ++ (cs (Txt.join (", " : Str) (ss.map srcT)) ++ cs (whereT cc)))) := by
      unfold pSel
      rw [tk_cat]
    simp only [Option.bind_some, e3, i, j]
  | false =>
    have e2 : cs (selT false) = cs ("select " : Str) := by decide +kernel
    rw [e2, tk_cat]
    have e4 : tk "distinct " (cs (Txt.join (", " : Str) (ts.map toldT)) ++ (cs (" from " : Str) ++ (cs (Txt.join (", " : Str) (ss.map srcT)) ++ cs (whereT cc)))) = none := by
      cases ts with
      | nil => exact absurd l1 (by decide)
      | cons t ts =>
        rw [List.map_cons, cs_join, List.append_assoc]
        refine first_told (ht t (List.mem_cons_self ..)) _ ?_
        cases ts with
        | nil => exact fun c e => by cases e; exact .inl rfl
        | cons x ts => exact fun c e => by cases e; exact .inr (.inl rfl)
    have e3 : pSel (cs (Txt.join (", " : Str) (ts.map toldT)) ++ (cs (" from " : Str) ++ (cs (Txt.join (", " : Str) (ss.map srcT)) ++ cs (whereT cc)))) = (false, cs (Txt.join (", " : Str) (ts.map toldT)) ++ (cs (" from " : Str) ++ (cs (Txt.join (", " : Str) (ss.map srcT)) ++ cs (whereT cc)))) := by
      unfold pSel
      rw [e4]
    simp only [Option.bind_some, e3, i, j]
end My

namespace My
open PySem PySem.Spec PyProof.Rows L2
/-! ### own errors, objects, methods, while -/
abbrev vErr : List Value := [.type "ValueError", .type "Exception", .type "BaseException", .type "object"]
/-- a class of errors over ValueError without a body -/
structure ErrC (K : PySem.W.Frag) (mg : Str → Option Value) (n : Str) (C : Addr) : Prop where
  g : mg n = some (.ref C)
  x : PySem.W.excIn K C vErr "ValueError.__new__" = true
  k : PySem.W.keepIn K (.ref C) = true
  b : PySem.W.subIn K (.ref C) (.type "BaseException") = some true
  t : PySem.W.typeIn K (.ref C) = some (.type "type")
/-- all of a def that may raise, by its name -/
structure CalX (P : Program) (w : World) (K : PySem.W.Frag) (mg : Str → Option Value) (base : Heap) (k : Nat) (x : Str) (sp : Sp) : Prop where
  ex : ∃ (f : Addr) (fd : FuncData) (ps : List Str), FnOk P w K mg base (L2.CX P w) k f fd ps sp ∧ mg x = some (.ref f) ∧ PySem.W.keepIn K (.ref f) = true ∧ Binds K fd ps []
/-- a def at an address, that may raise -/
structure AtX (P : Program) (w : World) (K : PySem.W.Frag) (mg : Str → Option Value) (base : Heap) (k : Nat) (f : Addr) (sp : Sp) : Prop where
  ex : ∃ (fd : FuncData) (ps : List Str), FnOk P w K mg base (L2.CX P w) k f fd ps sp ∧ PySem.W.keepIn K (.ref f) = true ∧ Binds K fd ps []
/-- a method of the class at C -/
structure MetN (P : Program) (w : World) (K : PySem.W.Frag) (mg : Str → Option Value) (base : Heap) (cx : CXT) (k : Nat) (C : Addr) (m : Str) (sp : Sp) : Prop where
  ex : ∃ (f : Addr) (fd : FuncData) (ps : List Str), FnOk P w K mg base cx k f fd ps sp ∧ Meth K C m f ∧ Binds K fd ps []
/-- the class at C is made by an __init__ -/
structure MakN (P : Program) (w : World) (K : PySem.W.Frag) (mg : Str → Option Value) (base : Heap) (cx : CXT) (k : Nat) (x : Str) (C : Addr) (sp : Sp) : Prop where
  ex : ∃ (f : Addr) (fd : FuncData) (ps : List Str), FnOk P w K mg base cx k f fd ps sp ∧ Mk K C f ∧ mg x = some (.ref C) ∧ Binds K fd ps []
theorem Fun.okXW {P : Program} {w : World} {K : PySem.W.Frag} {mg : Str → Option Value} {base : Heap} {x qual : Str} {st : Stmt} {f : Addr} {fd : FuncData} {N ps : List Str} {k : Nat} {sp : Sp} (F : Fun K x qual st f fd) (S : FnScope N ps (defScope st))
    (len : ∀ vs H Q E, sp vs H Q E → vs.length = ps.length)
    (body : ∀ (cdv : Value) (B : Around) (out : List Env) (s : Shared) (H : Hp) (vs : List V) (Q : VK) (E : XK), Room k (B.deeper (envOfC qual (defScope st) s.heap.objs.size f cdv)) →
      Takes (cxOf (L2.CX P w) P w K mg base N qual (defScope st) f cdv B out s H E) (fun cls d _ H => E cls d H) →
      PassesOwn (model P w) (B.deeper (envOfC qual (defScope st) s.heap.objs.size f cdv)) (envOfC qual (defScope st) s.heap.objs.size f cdv) (cxOf (L2.CX P w) P w K mg base N qual (defScope st) f cdv B out s H E).xe → sp vs H Q E →
      WL (cxOf (L2.CX P w) P w K mg base N qual (defScope st) f cdv B out s H E) (defBody st) { nx := fun _ H' => Q .non H', rt := Q } (start N vs) H) : FnOk P w K mg base (L2.CX P w) (k + 1) f fd ps sp :=
  F.okX S len fun cdv B out s H vs Q E hr h => ⟨_, pL, body cdv B out s H vs Q E hr (takes_of rfl rfl rfl rfl) (passes_of rfl) h⟩
section
variable {X : Cx} {W : WX} {E : XK} {o e c : Expr} {es : List Expr} {σ : L2.St} {H : Hp} {Q : VK} {D : Ends} {pos apos pos' tpos p p2 : Pos} {x m f : Str} {C : Addr} {k j : Nat} {sp : Sp}
theorem s_raise {i : Nat} (R : ErrC X.K X.mg x C) (tk : Takes X W) (q : W (.ref C) none σ H) (hc : X.calm = true := by rfl) (hg : Gl X x := by rfl) (hdb : (x == ("__debug__" : Str)) = false := by decide) : WS X (.Raise (some (.Call (.Name x p) [.Constant (.str m) i p2] [] pos)) none pos') D σ H :=
  toS (ps_raise hc tk (pmk_own PySem.F.excBase_ValueError R.x R.g R.k (raises_own R.b R.t) hg hdb)) q
theorem e_x (c : CalX X.prog X.w X.K X.mg X.base k x sp) (tk : Takes X W) (hr : Room j X.A) (hk : k ≤ j) (h : WA X (e :: es) σ H fun vs H1 => sp vs H1 Q fun cls d H' => W cls d σ H') (hg : Gl X x := by rfl)
    (hdb : (x == ("__debug__" : Str)) = false := by decide) (he : starEach (e :: es) X.env = (false, eval e X.env) :: starEach es X.env := by rfl) (hpl : (backTo pos (starEach es X.env)).any (·.1) = false := by rfl) :
    WE X (.Call (.Name x p) (e :: es) [] pos) σ H Q := by
  obtain ⟨f, fd, ps, F, hm, kp, hb⟩ := c.ex
  exact toE (pe_callS (E := fun σ cls d H => W cls d σ H) F (hr.mono hk) hg hm kp hb (fun σ => passAt tk σ) pA hdb he hpl) h
/-- a def that is held in a name -/
theorem e_xL (i : Nat) {g : Addr} (c : AtX X.prog X.w X.K X.mg X.base k g sp) (tk : Takes X fun cls d _ H => E cls d H) (hr : Room j X.A) (hk : k ≤ j) (hi : σ[i]? = some (some (.ref g))) (h : WA X (e :: es) σ H fun vs H1 => sp vs H1 Q E) (hN : X.N[i]? = some x := by rfl) (hv : Vis X.env.scope x := by first | exact Or.inl rfl | exact Or.inr (Or.inl rfl) | exact Or.inr (Or.inr rfl))
    (hdb : (x == ("__debug__" : Str)) = false := by decide) (hcd : (x == ("__classdict__" : Str)) = false := by decide) (he : starEach (e :: es) X.env = (false, eval e X.env) :: starEach es X.env := by rfl) (hpl : (backTo pos (starEach es X.env)).any (·.1) = false := by rfl) :
    WE X (.Call (.Name x p) (e :: es) [] pos) σ H Q := by
  obtain ⟨fd, ps, F, kp, hb⟩ := c.ex
  refine toE (pe_callL (i := i) F (hr.mono hk) hN hv kp hb .nil (passes_call tk fun _ _ _ _ h => h) pA hdb hcd he hpl) ⟨hi, WA.mono h fun vs H' q => ?_⟩
  show sp (vs ++ []) H' Q E
  rw [List.append_nil]; exact q
/-- o.m(e, ..) -/
theorem e_mX (c : MetN X.prog X.w X.K X.mg X.base (L2.CX X.prog X.w) k C m sp) (cl : Cls X.K C) (tk : Takes X fun cls d _ H => E cls d H) (hr : Room j X.A) (hk : k ≤ j)
    (h : WE X o σ H fun x H1 => ∃ a dx fs, x = .ref a ∧ H1 a = some (.ins C dx fs) ∧ fs.lookup m = none ∧ WA X (e :: es) σ H1 fun vs H2 => sp (.ref a :: vs) H2 Q E) {pl : Sem Bool}
    (hst : starEach (e :: es) X.env = (false, eval e X.env) :: starEach es X.env := by rfl) (hpl : (backTo pos (starEach es X.env)).any (·.1) = false := by rfl)
    (ht : eval (.Call (.Attribute o m apos) (e :: es) [] pos) X.env = (do
      let ov ← eval o X.env
      standAt apos.atName
      let (f, first) ← holding [ov] (getMethod ov m pl)
      callWith pos f first (backTo pos (starEach (e :: es) X.env)) (backToKw pos (keywordEach [] X.env))) := by rfl) : WE X (.Call (.Attribute o m apos) (e :: es) [] pos) σ H Q := by
  obtain ⟨f, fd, ps, F, hm, hb⟩ := c.ex
  refine toE (pe_meth (pl := pl) pE cl hm F (hr.mono hk) hb .nil (passes_call tk fun _ _ _ _ h => h) pA hst hpl ht) (WE.mono h fun x H1 ⟨a, dx, fs, e1, e2, e3, h2⟩ => ?_)
  subst e1
  refine ⟨a, dx, fs, rfl, e2, e3, WA.mono h2 fun vs H' q => ?_⟩
  rw [List.append_nil]; exact q
theorem e_mN (c : MetN X.prog X.w X.K X.mg X.base CX0 k C m sp) (cl : Cls X.K C) (hr : Room j X.A) (hk : k ≤ j)
    (h : WE X o σ H fun x H1 => ∃ a dx fs, x = .ref a ∧ H1 a = some (.ins C dx fs) ∧ fs.lookup m = none ∧ WA X (e :: es) σ H1 fun vs H2 => sp (.ref a :: vs) H2 Q E0) {pl : Sem Bool}
    (hst : starEach (e :: es) X.env = (false, eval e X.env) :: starEach es X.env := by rfl) (hpl : (backTo pos (starEach es X.env)).any (·.1) = false := by rfl)
    (ht : eval (.Call (.Attribute o m apos) (e :: es) [] pos) X.env = (do
      let ov ← eval o X.env
      standAt apos.atName
      let (f, first) ← holding [ov] (getMethod ov m pl)
      callWith pos f first (backTo pos (starEach (e :: es) X.env)) (backToKw pos (keywordEach [] X.env))) := by rfl) : WE X (.Call (.Attribute o m apos) (e :: es) [] pos) σ H Q := by
  obtain ⟨f, fd, ps, F, hm, hb⟩ := c.ex
  refine toE (pe_meth (pl := pl) pE cl hm F (hr.mono hk) hb .nil pass0 pA hst hpl ht) (WE.mono h fun x H1 ⟨a, dx, fs, e1, e2, e3, h2⟩ => ?_)
  subst e1
  refine ⟨a, dx, fs, rfl, e2, e3, WA.mono h2 fun vs H' q => ?_⟩
  rw [List.append_nil]; exact q
/-- o.m() -/
theorem e_mX0 (c : MetN X.prog X.w X.K X.mg X.base (L2.CX X.prog X.w) k C m sp) (cl : Cls X.K C) (tk : Takes X fun cls d _ H => E cls d H) (hr : Room j X.A) (hk : k ≤ j)
    (h : WE X o σ H fun x H1 => ∃ a dx fs, x = .ref a ∧ H1 a = some (.ins C dx fs) ∧ fs.lookup m = none ∧ sp [.ref a] H1 Q E) {pl : Sem Bool}
    (ht : eval (.Call (.Attribute o m apos) [] [] pos) X.env = (do
      let ov ← eval o X.env
      standAt apos.atName
      let (f, first) ← holding [ov] (getMethod ov m pl)
      callWith pos f first (backTo pos (starEach [] X.env)) (backToKw pos (keywordEach [] X.env))) := by rfl) : WE X (.Call (.Attribute o m apos) [] [] pos) σ H Q := by
  obtain ⟨f, fd, ps, F, hm, hb⟩ := c.ex
  exact toE (pe_meth0 (pl := pl) pE cl hm F (hr.mono hk) hb .nil (passes_call tk fun _ _ _ _ h => h) ht) (WE.mono h fun x H1 ⟨a, dx, fs, e1, e2, e3, h2⟩ => by subst e1; exact ⟨a, dx, fs, rfl, e2, e3, h2⟩)
theorem e_mN0 (c : MetN X.prog X.w X.K X.mg X.base CX0 k C m sp) (cl : Cls X.K C) (hr : Room j X.A) (hk : k ≤ j)
    (h : WE X o σ H fun x H1 => ∃ a dx fs, x = .ref a ∧ H1 a = some (.ins C dx fs) ∧ fs.lookup m = none ∧ sp [.ref a] H1 Q E0) {pl : Sem Bool}
    (ht : eval (.Call (.Attribute o m apos) [] [] pos) X.env = (do
      let ov ← eval o X.env
      standAt apos.atName
      let (f, first) ← holding [ov] (getMethod ov m pl)
      callWith pos f first (backTo pos (starEach [] X.env)) (backToKw pos (keywordEach [] X.env))) := by rfl) : WE X (.Call (.Attribute o m apos) [] [] pos) σ H Q := by
  obtain ⟨f, fd, ps, F, hm, hb⟩ := c.ex
  exact toE (pe_meth0 (pl := pl) pE cl hm F (hr.mono hk) hb .nil pass0 ht) (WE.mono h fun x H1 ⟨a, dx, fs, e1, e2, e3, h2⟩ => by subst e1; exact ⟨a, dx, fs, rfl, e2, e3, h2⟩)
/-- C(e, ..) -/
theorem e_makeX (c : MakN X.prog X.w X.K X.mg X.base (L2.CX X.prog X.w) k x C sp) (tk : Takes X fun cls d _ H => E cls d H) (hr : Room j X.A) (hk : k + 1 ≤ j)
    (h : WA X (e :: es) σ H fun vs H1 => ∀ a dx, H1 a = none → H1 dx = none → dx ≠ a → sp (.ref a :: vs) (upd (upd H1 dx (.own a)) a (.ins C dx [])) (fun v H2 => v = .non ∧ Q (.ref a) H2) E) (hg : Gl X x := by rfl)
    (hdb : (x == ("__debug__" : Str)) = false := by decide) (he : starEach (e :: es) X.env = (false, eval e X.env) :: starEach es X.env := by rfl) (hpl : (backTo pos (starEach es X.env)).any (·.1) = false := by rfl) :
    WE X (.Call (.Name x p) (e :: es) [] pos) σ H Q := by
  obtain ⟨f, fd, ps, F, M, hm, hb⟩ := c.ex
  refine toE (pe_make M F (hr.mono hk) hg hm hb .nil (passes_call tk fun _ _ _ _ h => h) pA hdb he hpl) (WA.mono h fun vs H1 q a dx n1 n2 n3 => ?_)
  rw [List.append_nil]; exact q a dx n1 n2 n3
/-- o.f -/
theorem e_fld (h : WE X o σ H fun x H1 => ∃ a C dx fs v, x = .ref a ∧ H1 a = some (.ins C dx fs) ∧ Cls X.K C ∧ NoAttr X.K C f ∧ fs.lookup f = some v ∧ Q v H1) (hb : attributeBase o f X.env (eval o X.env) = eval o X.env := by rfl) : WE X (.Attribute o f pos) σ H Q := toE (pe_fld pE hb) h
/-- o.f = e -/
theorem s_fld (h : WE X e σ H fun y H1 => WE X o σ H1 fun x H2 => ∃ a C dx fs, x = .ref a ∧ H2 a = some (.ins C dx fs) ∧ Cls X.K C ∧ NoAttr X.K C f ∧ fs.length < 1000 ∧ D.nx σ (upd H2 a (.ins C dx (putF f y fs))))
    (hs : swapsWith e (some (.Attribute o f pos')) pos.line X.env = pure false := by rfl) : WS X (.Assign [.Attribute o f pos'] e pos) D σ H := toS (ps_fld pE pE hs) h
/-- o.f += e, ints -/
theorem s_fldadd (h : WE X o σ H fun x H1 => ∃ a C dx fs v, x = .ref a ∧ H1 a = some (.ins C dx fs) ∧ Cls X.K C ∧ NoAttr X.K C f ∧ fs.lookup f = some v ∧
    WE X e σ H1 fun y H2 => ∃ i j, v = .int i ∧ y = .int j ∧ ∃ dx' fs', H2 a = some (.ins C dx' fs') ∧ fs'.length < 1000 ∧ D.nx σ (upd H2 a (.ins C dx' (putF f (.int (i + j)) fs')))) :
    WS X (.AugAssign (.Attribute o f tpos) .Add e pos) D σ H :=
  toS (ps_fldaug pE pE in_add) (WE.mono h fun x H1 ⟨a, C, dx, fs, v, e1, e2, e3, e4, e5, h2⟩ => ⟨a, C, dx, fs, v, e1, e2, e3, e4, e5, WE.mono h2 fun y H2 ⟨i, j, e6, e7, q⟩ => ⟨i, j, e6, e7, q⟩⟩)
/-- x += e, ints -/
theorem s_augI (i : Nat) (h : ∃ z : Int, σ[i]? = some (some (.int z)) ∧ WE X e σ H fun y H1 => ∃ j, y = .int j ∧ D.nx (σ.set i (some (.int (z + j)))) H1) (hN : X.N.Nodup) (hi : X.N[i]? = some x := by rfl) (hx : Loc X.env.scope x := by first | exact Or.inl rfl | exact Or.inr rfl)
    (hf : X.fn x = true ∨ X.env.scope.names.lookup x = some .local := by first | exact .inl rfl | exact .inr rfl | assumption) : WS X (.AugAssign (.Name x pos') .Add e pos) D σ H := by
  obtain ⟨z, hz, k⟩ := h
  exact toS (ps_aug (ti := fun x y H Q => ∃ i j, x = .int i ∧ y = .int j ∧ Q (.int (i + j)) H) hN hi hx pE (fun pins s σ H x y u v Q I rx ry h => iop_add pins s σ H x y u v Q I rx ry h) hf) ⟨_, hz, WE.mono k fun y H1 ⟨j, e, q⟩ => ⟨z, j, rfl, e, q⟩⟩
/-- while -/
theorem s_while {body : List Stmt} (Pv : L2.St → Hp → Prop) (μ : L2.St → Hp → Nat) (h0 : Pv σ H)
    (hs : ∀ σ H, Pv σ H → WT X c σ H fun b H1 => if b = true then WL X body { D with nx := fun σ' H' => Pv σ' H' ∧ μ σ' H' < μ σ H, ct := fun σ' H' => Pv σ' H' ∧ μ σ' H' < μ σ H, bk := D.nx } σ H1 else D.nx σ H1)
    (hp : PassesOwn (model X.prog X.w) X.A X.env X.xe) : WS X (.While c body [] pos) D σ H :=
  toS (ps_while hp pT pL) (while_by Pv μ h0 hs fun σ H Q Q' k q => WT.mono q k)
/-- o.startswith(a, b) -/
theorem e_starts {a b : Expr} (h : WE X o σ H fun x H1 => (∃ z, x = .str z) ∧ WE X a σ H1 fun y H2 => WE X b σ H2 fun u H3 => ∃ z s i, x = .str z ∧ y = .str s ∧ u = .int i ∧ Q (.bl (Txt.startswith3 z s i)) H3)
    (hbase : attributeBase o "startswith" X.env (eval o X.env) = eval o X.env := by rfl)
    (hfew : ((backTo pos (starEach [a, b] X.env)).all (fun x => !x.1) && (backToKw pos (keywordEach [] X.env)).all (fun x => x.1.isSome) && decide ([a, b].length + ([] : List Keyword).length + (if ([] : List Keyword).isEmpty then 0 else 1) < 30)) = true := by rfl)
    (hline : (apos.endLine == pos.line) = true := by rfl) (hs : starEach [a, b] X.env = (false, eval a X.env) :: starEach [b] X.env := by rfl) (hs2 : starEach [b] X.env = (false, eval b X.env) :: starEach [] X.env := by rfl) (hplain : (backTo pos (starEach [b] X.env)).any (·.1) = false := by rfl) :
    WE X (.Call (.Attribute o "startswith" apos) [a, b] [] pos) σ H Q :=
  toE (pe_bm PySem.F.plainAttrs_str PySem.F.slot_str_startswith PySem.F.type_str_startswith mt_startswith3 pE pA hbase hfew hline hs hplain) (WE.mono h fun x H1 ⟨⟨z, e1⟩, h2⟩ => by
    subst e1
    exact ⟨rfl, a_cons (WE.mono h2 fun y H2 h3 => a_cons (WE.mono h3 fun u H3 ⟨z', s, i, e1, e2, e3, q⟩ => a_nil ⟨z', s, i, e1, by rw [e2, e3], q⟩) hs2) hs⟩)
/-- o[a:b], a text -/
theorem e_slS {a b : Expr} (h : WE X o σ H fun x H1 => WE X a σ H1 fun y H2 => ∃ i, y = .int i ∧ WE X b σ H2 fun u H3 => ∃ z j, x = .str z ∧ u = .int j ∧ z.length ≤ sizeLine ∧ Q (.str (cutS z (some i) (some j))) H3) : WE X (.Subscript o (.Slice (some a) (some b) none p2) pos) σ H Q :=
  toE (pe_slice sl_str pE (po_some pE) (po_some pE)) (WE.mono h fun x H1 h1 => WE.mono h1 fun y H2 ⟨i, e2, h2⟩ => ⟨i, e2, WE.mono h2 fun u H3 ⟨z, j, e1, e3, hz, q⟩ => ⟨j, e3, z, e1, hz, q⟩⟩)
end
/-! texts at a place -/
theorem starts_eq {T s : Str} {n : Nat} (hn : n ≤ T.length) : Txt.startswith3 T s n = (tk s ((cs T).drop n)).isSome := by
  have e1 : PySem.fromIndex T.length (n : Int) = n := by unfold PySem.fromIndex; rw [if_neg (by omega)]; omega
  unfold Txt.startswith3 tk
  rw [e1]
  have e2 : (if (cs s).isPrefixOf ((cs T).drop n) then some (((cs T).drop n).drop (cs s).length) else none).isSome = (cs s).isPrefixOf ((cs T).drop n) := by
    cases h : (cs s).isPrefixOf ((cs T).drop n) <;> simp
  rw [e2]
  apply Bool.eq_iff_iff.mpr
  rw [Bool.and_eq_true, decide_eq_true_eq, List.isPrefixOf_iff_prefix, List.prefix_iff_eq_take]
  have e3 : Builtin.Str.subAt T s n = true ↔ ((cs T).drop n).take s.length = cs s := by
    show (T.cps.extract n (n + s.length) == s.cps) = true ↔ _
    rw [beq_iff_eq]
    have : (T.cps.extract n (n + s.length)).toList = ((cs T).drop n).take s.length := by
      rw [Array.toList_extract]; simp [List.extract]
    rw [← this]
    exact ⟨fun h => by rw [h], fun h => Array.toList_inj.mp h⟩
  rw [e3]
  have el : (cs s).length = s.length := rfl
  rw [el]
  constructor
  · rintro ⟨_, h⟩; exact h.symm
  · intro h
    refine ⟨?_, h.symm⟩
    have := congrArg List.length h
    rw [List.length_take, List.length_drop] at this
    have e4 : (cs T).length = T.length := rfl
    rw [el, e4] at this
    omega
end My

namespace My
open PySem PySem.Spec PyProof.Rows L2
/-! ### a caught error that outlives its suite: try: .. except C as n: y = n -/
/-- an error's own object, of the class cls, without a dict -/
def ExO (a : Addr) (cls : Value) : HO := .ext fun h => ∃ oe, h.get? a = some oe ∧ Zc cls none oe ∧ ∃ vs, oe.data = .fields vs
section
variable {X : Cx} {pins : List (Addr × Obj)} {σ : L2.St} {H : Hp} {s : Shared} {a : Addr} {oe : Obj} {cls : Value}
theorem exO_ok (h1 : s.heap.get? a = some oe) (hz : Zc cls none oe) (hd : ∃ vs, oe.data = .fields vs) {H' : Hp} : ObjOk X.prog X.w H' s.heap a (ExO a cls) :=
  ⟨⟨oe, h1, hz, hd⟩, ⟨oe, h1⟩, fun _ _ ⟨o, e, r⟩ k => ⟨o, k _ e, r⟩⟩
/-- a pinned error is tracked from here on -/
theorem inv_hold (I : Inv X ((a, oe) :: pins) σ H s) (h0 : X.s_0.heap.get? a = none) (hp : ∀ q ∈ X.pn ++ pins, q.1 ≠ a) (hz : Zc cls none oe) (hd : ∃ vs, oe.data = .fields vs) : Inv X pins σ (upd H a (ExO a cls)) s := by
  obtain ⟨g, fr, nl, nf, nc⟩ := I.pin (a, oe) (List.mem_append.mpr (.inr List.mem_cons_self))
  have na : ∀ {b : Addr} {u : HO}, H b = some u → b ≠ a := fun e z => by rw [z, fr] at e; cases e
  have n0 : ∀ {b : Addr} {u : Obj}, X.s_0.heap.get? b = some u → b ≠ a := fun e z => by rw [z, h0] at e; cases e
  have B := I.base
  have tr : ∀ {b : Addr} {u : HO}, H b = some u → upd H a (ExO a cls) b = some u := fun e => by rw [upd_ne (na e)]; exact e
  refine ⟨I.ok, I.os, I.bare, ⟨B.keep, B.slot, fun b o e n x => by rw [upd_ne (n0 e)]; exact B.free b o e n x, B.there, fun b xs e => tr (B.tups b xs e), fun b o u e => tr (B.frzs b o u e), fun b ps e => ?_⟩, I.loc, I.cell, ?_, fun x c e => ?_, fun q hq => ?_, fun b u e => ?_, I.len⟩
  · obtain ⟨m, r⟩ := B.tbls b ps e
    exact ⟨m, tr r⟩
  · rw [upd_ne (Ne.symm nl)]; exact I.free
  · have ne : c ≠ a := fun z => by
      obtain ⟨v, oc, r1, r2⟩ := I.cell x c e
      rw [z, g] at r1
      exact nc v (by cases r1; exact r2)
    rw [upd_ne ne]; exact I.freeC x c e
  · have hm : q ∈ X.pn ++ ((a, oe) :: pins) := by
      rcases List.mem_append.mp hq with z | z
      · exact List.mem_append_left _ z
      · exact List.mem_append_right _ (List.mem_cons_of_mem _ z)
    obtain ⟨r1, r2, r3⟩ := I.pin q hm
    exact ⟨r1, by rw [upd_ne (hp q hq)]; exact r2, r3⟩
  · by_cases z : b = a
    · subst z
      rw [upd_same] at e
      cases e
      exact exO_ok g hz hd
    · rw [upd_ne z] at e
      exact (I.hok b u e).stay (fun _ _ _ r => r) (fun _ r => tr r) fun _ _ r => tr r
/-- out of the suite, the error's pin kept -/
theorem inv_unsuiteK {pn' : List (Addr × Obj)} (I : Inv (X.suite a ((a, oe) :: (X.pn ++ pins))) pn' σ H s) (ok : X.Ok) : Inv X ((a, oe) :: pins) σ H s := by
  refine ⟨ok, I.os, I.bare, I.base, I.loc, I.cell, I.free, I.freeC, fun q hq => I.pin q (List.mem_append_left _ ?_), I.hok, I.len⟩
  rcases List.mem_append.mp hq with z | z
  · exact List.mem_cons_of_mem _ (List.mem_append_left _ z)
  · rcases List.mem_cons.mp z with z | z
    · rw [z]; exact List.mem_cons_self
    · exact List.mem_cons_of_mem _ (List.mem_append_right _ z)
end
/-- what the clause wishes: the error stands in y's slot j, n's slot i is gone -/
def wHold (K : PySem.W.Frag) (c : Value) (i j : Nat) (D : Ends) : WX := fun cls d σ H =>
  PySem.W.exmOne K cls c = some true ∧ d = none ∧ ∀ a, H a = none → D.nx ((σ.set j (some (.ref a))).set i none) (upd H a (ExO a cls))
section
variable {X : Cx} {x n y : Str} {c : Value} {i j : Nat} {body : List Stmt} {np py pn2 pa pos pos' : Pos} {σ : L2.St} {H : Hp} {D : Ends}
theorem s_try_hold (hs : X.stack = X.env :: X.outer) (hf : X.env.frame = some X.env.locals) (hx : X.ex = []) (hN : X.N.Nodup) (hi : X.N[i]? = some n) (hj : X.N[j]? = some y) (ij : i ≠ j) (li : X.env.kindOf n = some .local) (lj : X.env.kindOf y = some .local) (hc : Names X x c)
    (h : ∀ (pn : List (Addr × Obj)) (xe : Value → Shared → Prop), Takes (X.tr pn xe) (wHold X.K c i j D) → PassesOwn (model X.prog X.w) X.A X.env xe → WL (X.tr pn xe) body D σ H)
    (hdn : (n == ("__debug__" : Str)) = false := by decide) (hcn : (n == ("__classdict__" : Str)) = false := by decide)
    (hsw : ∀ X' : Cx, X'.env = X.env → swapsWith (.Name n pn2) (some (.Name y py)) pa.line X'.env = pure false := by intro X' e; rw [e]; rfl) :
    WS X (.Try body [.ExceptHandler (some (.Name x np)) (some n) [.Assign [.Name y py] (.Name n pn2) pa] pos'] [] [] pos) D σ H := by
  refine ⟨fun pins s I => wpAny_Try_except ?_⟩
  have ok := I.ok
  have fr : X.A.frames = some (X.env :: X.outer) := ok.frames.trans (congrArg some hs)
  have run := (h (X.pn ++ pins) (fun e s₁ => wpAny (model X.prog X.w) X.A (noteFrame e X.env) (fun _ s₂ => wpAny (model X.prog X.w) X.A (setFlight e none)
      (fun _ s₃ => wpAny (model X.prog X.w) X.A (handleBy e X.env [.ExceptHandler (some (.Name x np)) (some n) [.Assign [.Name y py] (.Name n pn2) pa] pos']) (SP X pins D) X.xe s₃) X.xe s₂) X.xe s₁) ?_ PassesOwn.looking).go [] s (I.toTry _)
  · refine wpAny_mono run (fun fl s1 q => ?_) fun _ _ z => z
    cases fl with
    | next => obtain ⟨τ, G, J, r⟩ := q; exact wpAny_execs_nil ⟨τ, G, J.ofTry ok, r⟩
    | brk => obtain ⟨τ, G, J, r⟩ := q; exact ⟨τ, G, J.ofTry ok, r⟩
    | cont => obtain ⟨τ, G, J, r⟩ := q; exact ⟨τ, G, J.ofTry ok, r⟩
    | ret u => obtain ⟨v, τ, G, J, rv, r⟩ := q; exact ⟨v, τ, G, J.ofTry ok, rv, r⟩
  -- an error
  rintro u s1 ⟨a, B, sI, qs, τ, G, cls, d, rfl, J', nb, up, sky, na, os, ag, hm, rfl, hq⟩
  have J : Inv X pins τ G sI := J'.ofTry ok
  rw [hs] at sky
  refine Sky.land Zc.steady fr hf sky fun h3 f3 u3 => ?_
  obtain ⟨o3, v3, g3, z3, d3⟩ := f3.there
  have away : a ∉ frs (X.env :: X.outer) := fun hin => by
    obtain ⟨_, o', e', bad⟩ := f3.2.2.1.mem hin
    rw [g3] at e'; cases e'
    exact bad _ d3
  have nI : sI.heap.get? a = none := by
    cases e : sI.heap.get? a with
    | none => rfl
    | some o =>
      have := nb a o e (by rw [hs]; exact away)
      rw [f3.2.1] at this; cases this
  have n0 : X.s_0.heap.get? a = none := by
    cases e : X.s_0.heap.get? a with
    | none => rfl
    | some o =>
      obtain ⟨o', e'⟩ := J.base.there a o e (by rw [hx]; exact List.not_mem_nil)
      rw [nI] at e'; cases e'
  have np' : ∀ q ∈ X.pn ++ pins, q.1 ≠ a := fun q hq z => by
    have := (J.pin q hq).1
    rw [z, nI] at this; cases this
  have nL : a ≠ X.env.locals := fun z => away (List.mem_filterMap.mpr ⟨X.env, List.mem_cons_self, by rw [hf, z]⟩)
  have nF : a ∉ X.fs := fun hin => by
    obtain ⟨e, he, r⟩ := List.mem_filterMap.mp hin
    exact away (List.mem_filterMap.mpr ⟨e, List.mem_cons_of_mem _ he, r⟩)
  have L3 : Inv X pins τ G { s1 with heap := h3 } := J.landed nb f3.1 (up.trans u3) os ag
  have S3 := L3.suite g3 d3 na nL nF
  refine wpAny_handleBy_cons (codeAny_handlers_test ?_) (by intro r; cases r)
  have ty : PySem.W.Looks (model X.prog X.w) h3 (typeOf (.ref a)) cls := fun A Q E s k r => wpAny_typeOf_ref (k _ _ g3) (by rw [z3.1]; exact r)
  have look := PySem.W.exm_one (M := model X.prog X.w) L3.kIn ty hm
  have named : ∀ {Q : Value → Shared → Prop} {E : Value → Shared → Prop}, Q c { s1 with heap := h3 } → wpAny (model X.prog X.w) (X.A.mark (some (.ref a))) (eval (.Name x np) X.env) Q E { s1 with heap := h3 } := fun r => by
    obtain ⟨gx, dx, e | ⟨e1, e2, e3⟩⟩ := hc
    · exact ld_glob (X := X.suite a ((a, o3) :: (X.pn ++ pins))) S3 gx e r dx
    · exact ld_blt (X := X.suite a ((a, o3) :: (X.pn ++ pins))) S3 gx e1 e2 r e3 dx
  refine named (look.here (codeAny_handlers_suite_as (HandSPX.lands_againZ f3 fun h4 f4 u4 => ?_)))
  obtain ⟨o4, v4, g4, z4, d4⟩ := f4.there
  have L4 : Inv X pins τ G { s1 with heap := h4 } := J.landed nb f4.1 ((up.trans u3).trans u4) os ag
  have S4 := L4.suite g4 d4 na nL nF
  refine store_ok (X := X.suite a ((a, o4) :: (X.pn ++ pins))) (v := .ref a) S4 hN hi (.inl li) rfl (fun s5 S5 => ?_) (.inr li)
  have li' : i < τ.length := by rw [J.len]; exact (List.getElem?_eq_some_iff.mp hi).1
  have asg : PSs (X.suite a ((a, o4) :: (X.pn ++ pins))) [.Assign [.Name y py] (.Name n pn2) pa] _ := pss_one (ps_set (i := j) hN hj (.inl lj) (pe_var (i := i) hi (.inl li) hdn hcn) (hsw _ rfl) (.inr lj))
  refine wpAny_mono (asg.run [] s5 _ G { nx := fun τ' G' => τ' = (τ.set i (some (.ref a))).set j (some (.ref a)) ∧ G' = G, rt := fun _ _ => False } S5 ⟨_, by rw [List.getElem?_set_self li'], rfl, rfl⟩) (fun fl s6 q => ?_) (fun _ _ z => z.elim)
  cases fl with
  | brk => obtain ⟨_, _, _, z⟩ := q; exact z.elim
  | cont => obtain ⟨_, _, _, z⟩ := q; exact z.elim
  | ret u => obtain ⟨_, _, _, _, _, z⟩ := q; exact z.elim
  | next =>
    obtain ⟨τ6, G6, S6, rfl, rfl⟩ := q
    refine gone_ok (inv_unsuiteK S6 ok) hN hi li fun s7 J7 => ⟨_, _, inv_hold J7 n0 np' z4 ⟨_, d4⟩, ?_⟩
    have e : ((τ.set i (some (V.ref a))).set j (some (V.ref a))).set i none = (τ.set j (some (V.ref a))).set i none := by
      rw [List.set_comm _ _ ij, List.set_set]
    rw [e]
    exact hq a na
end
/-! isinstance of a held error -/
section
variable {X : Cx} {e t : Expr} {σ : L2.St} {H : Hp} {Q : VK} {pos p : Pos} {D : Addr}
theorem call_isO (C : ExcC X.K D) : CallR X (.builtin "isinstance") (fun xs H Q => ∃ (a : Addr) (c : V) (cv : Value) (b : Bool), xs = [.ref a, c] ∧ H a = some (ExO a (.ref D)) ∧ (∀ u, RelV c u → u = cv) ∧ PySem.W.kitOne X.K (.ref D) cv = some b ∧ Q (.bl b) H) := by
  rintro pins s σ H xs us Q I r ⟨a, c, cv, b, rfl, ha, hcv, hk, q⟩
  cases r with
  | cons r1 r2 =>
    cases r2 with
    | cons r3 r4 =>
      cases r4
      cases r1
      have ec := hcv _ r3
      subst ec
      obtain ⟨⟨oe, g, hz, vs, hv⟩, _⟩ : ObjOk X.prog X.w H s.heap a (ExO a (.ref D)) := I.hok a _ ha
      have at_ : PySem.W.InstAt s.heap a oe D none := by
        obtain ⟨c0, d0, t0, l0⟩ := oe
        obtain ⟨h1, h2⟩ := hz
        dsimp only at h1 h2 hv
        subst h1 h2 hv
        exact ⟨g, rfl, rfl, trivial⟩
      exact PySem.W.kia_one (PySem.W.handS_kitx_exc C.hg C.hk C.hs C.hd C.ha C.hn C.ht C.hm) I.kIn at_ hk (fun z => nomatch z) fun tk => ⟨.bl b, H, I.kept (t' := tk) fun _ _ z => z, rfl, q⟩
/-- isinstance(e, T), e a held error, T a class of the program -/
theorem e_isO (hm : X.mg "isinstance" = none) (C : ExcC X.K D) {T : Str} {CT : Addr} {pT : Pos} {b : Bool} (hT : X.mg T = some (.ref CT)) (hk : PySem.W.kitOne X.K (.ref D) (.ref CT) = some b) (h : WE X e σ H fun x H1 => ∃ a, x = .ref a ∧ H1 a = some (ExO a (.ref D)) ∧ Q (.bl b) H1) (hg : Gl X "isinstance" := by rfl) (hgT : Gl X T := by rfl) (hdT : (T == ("__debug__" : Str)) = false := by decide)
    (he : starEach [e, .Name T pT] X.env = (false, eval e X.env) :: starEach [.Name T pT] X.env := by rfl) (he2 : starEach [.Name T pT] X.env = (false, eval (.Name T pT) X.env) :: starEach [] X.env := by rfl) (hpl : (backTo pos (starEach [.Name T pT] X.env)).any (·.1) = false := by rfl) :
    WE X (.Call (.Name "isinstance" p) [e, .Name T pT] [] pos) σ H Q :=
  e_callB (call_isO C) hm PyProof.Rows.boot_isinstance (a_cons (WE.mono h fun x H1 ⟨a, e1, ha, q⟩ => a_cons (e_glob (v := .ref CT) hT rfl (a_nil ⟨a, .ref CT, .ref CT, b, by rw [e1], ha, fun u r => r, hk, q⟩) hgT hdT) he2) he) hg (by decide) (by decide) he hpl
/-- isinstance(e, T), T a class that is built in -/
theorem e_isOB (hm : X.mg "isinstance" = none) (C : ExcC X.K D) {T : Str} {tn : String} {pT : Pos} {b : Bool} (hT : X.mg T = none) (hB : bootBuiltins T = some (.type tn)) (hn : T ≠ "__name__") (hk : PySem.W.kitOne X.K (.ref D) (.type tn) = some b) (h : WE X e σ H fun x H1 => ∃ a, x = .ref a ∧ H1 a = some (ExO a (.ref D)) ∧ Q (.bl b) H1) (hg : Gl X "isinstance" := by rfl) (hgT : Gl X T := by rfl) (hdT : (T == ("__debug__" : Str)) = false := by decide)
    (he : starEach [e, .Name T pT] X.env = (false, eval e X.env) :: starEach [.Name T pT] X.env := by rfl) (he2 : starEach [.Name T pT] X.env = (false, eval (.Name T pT) X.env) :: starEach [] X.env := by rfl) (hpl : (backTo pos (starEach [.Name T pT] X.env)).any (·.1) = false := by rfl) :
    WE X (.Call (.Name "isinstance" p) [e, .Name T pT] [] pos) σ H Q :=
  e_callB (call_isO C) hm PyProof.Rows.boot_isinstance (a_cons (WE.mono h fun x H1 ⟨a, e1, ha, q⟩ => a_cons (e_bltn (v := .ty tn) hT hB rfl (a_nil ⟨a, .ty tn, .type tn, b, by rw [e1], ha, fun u r => r, hk, q⟩) hgT hn hdT) he2) he) hg (by decide) (by decide) he hpl
end
end My

namespace L2
open PySem PySem.Spec PyProof.Rows
section
variable {X : Cx}
/-- list * int -/
theorem op_mulL : OpR X (binaryOp .Mult) (fun x y H Q => ∃ l k xs, x = .ref l ∧ y = .int k ∧ SqL X.K H l xs ∧ 0 ≤ k ∧ k ≤ 1000 ∧ xs.length ≤ 1000 ∧ ∀ p, H p = none → Q (.ref p) (upd H p (.lst (List.replicate k.toNat xs).flatten))) := by
  intro pins s σ H x y v u Q I rx ry h
  obtain ⟨l, k, xs, rfl, rfl, hT, h0, h1, hz, q⟩ := h
  cases rx
  obtain ⟨t, rfl⟩ := ry
  obtain ⟨its, r, pl, hs⟩ := I.list hT
  obtain ⟨⟨cls, dd, data, sl⟩, ho, hc, n, hd⟩ := pl.isList
  simp only at hc hd
  subst hc hd
  have hle : its.length = xs.length := r.length.symm
  have flen : its.toArray.size * k.toNat ≤ 1000000 := by
    rw [List.size_toArray, hle]
    exact Nat.mul_le_mul hz (show k.toNat ≤ 1000 by omega)
  refine wpAny_binaryOp_repeat_ref (T := "list") (U := "int") (by decide) ⟨_, ho, rfl⟩ (fun s' => typeIs_int s' k t) noFill_list_mul F.fills_int_mul F.slot_int_rmul repeat_list F.slot_int_index.lookup
    (call_meets F.slot_int_rmul (typeIs_int s k t) F.entry_int_rmul (F.args_int_rmul_2 _ _) (lm_int_rmul_list_any k t l its.toArray n dd sl)
      ⟨ho, rfl, ⟨_, ho, rfl⟩, call_meets F.slot_list_mul ⟨_, ho, rfl⟩ F.entry_list_mul (F.args_list_mul_2 _ _)
        (lm_list_mul_any l its.toArray n dd sl k t (by simp [Builtin.List.listFitsIndex]; omega) (by omega) (by simp only [Builtin.List.listTooLong, sizeLine_eq, decide_eq_true_eq]; omega))
        ⟨ho, ?_⟩⟩)
  rw [listMul_foldl_if]
  refine ⟨.ref s.heap.objs.size, _, I.laid (t' := s.toks) (o := .lst (List.replicate k.toNat xs).flatten) (fun b ob q => Heap.get?_push_of_some _ q) (Nat.le_refl _) ?_, rfl, q _ (I.hok.fresh (Nat.le_refl _))⟩
  exact ⟨by rw [PyProof.Rows.lm_len_rep_flat, sizeLine_eq]; have a1 : k.toNat * xs.length ≤ 1000 * 1000 := Nat.mul_le_mul (by omega) hz; omega, _, 0, r.rep k.toNat, Heap.get?_push_size _ rfl⟩
/-- text * int, also long -/
theorem op_mulS2 : OpR X (binaryOp .Mult) (fun x y H Q => ∃ z k, x = .str z ∧ y = .int k ∧ 2 ≤ k ∧ k ≤ 10000 ∧ 1 ≤ z.length ∧ z.length ≤ 100 ∧ Q (.str ⟨(List.replicate k.toNat z.cps).foldl (· ++ ·) #[]⟩) H) := by
  intro pins s σ H x y v u Q I rx ry h
  obtain ⟨z, k, rfl, rfl, h1, h2, h3, h4, q⟩ := h
  obtain ⟨t, rfl⟩ := rx
  obtain ⟨t', rfl⟩ := ry
  have hno : (k == 1 || z.length == 0) = false := by
    rw [beq_eq_false_iff_ne.mpr (show k ≠ 1 by omega), beq_eq_false_iff_ne.mpr (show z.length ≠ 0 by omega)]; rfl
  refine P.mul_str ?_ (fun _ _ => ?_) (fun _ _ => ?_) ?_
  · rw [decide_eq_false (by omega), decide_eq_false (by omega)]; rfl
  · have : (100 : Int) ≤ (2 ^ 63 - 1) / k := by
      refine Int.le_ediv_of_mul_le (by omega) ?_
      omega
    omega
  · refine decide_eq_false ?_
    rw [sizeLine_eq]
    have : z.length * k.toNat ≤ 100 * 10000 := Nat.mul_le_mul h4 (by omega)
    omega
  · rw [if_neg (by omega), hno, if_neg (by decide)]
    refine ⟨?_, ⟨.str _, H, I.tok _, ⟨_, rfl⟩, q⟩⟩
    show ((List.replicate k.toNat z.cps).foldl (fun x1 x2 => x1 ++ x2) #[]).size ≤ sizeLine
    rw [rep_size, sizeLine_eq]
    have : k.toNat * z.cps.size ≤ 10000 * 100 := Nat.mul_le_mul (by omega) h4
    show #[].size + _ ≤ _
    simp only [List.size_toArray, List.length_nil]
    omega
def chars (z : Str) : List Str := z.cps.toList.map fun c => ⟨#[c]⟩
theorem vals_signs : ∀ (cs : List Nat) (its : List Value), its.length = cs.length → (∀ (j : Nat) (v : Value), its[j]? = some v → ∃ (c : Nat) (u : Tok), cs[j]? = some c ∧ v = Value.str ⟨#[c]⟩ u) → Vals (cs.map fun c => V.str ⟨#[c]⟩) its
  | [], [], _, _ => .nil
  | [], _ :: _, h, _ => by cases h
  | _ :: _, [], h, _ => by cases h
  | c :: cs, v :: vs, h, k => by
    obtain ⟨c', u, e1, e2⟩ := k 0 v rfl
    cases e1
    subst e2
    exact .cons ⟨_, rfl⟩ (vals_signs cs vs (by simpa using h) fun j v' hv => k (j + 1) v' hv)
/-- list(text) -/
theorem call_list_ofS (hcalm : X.calm = true) : CallR X (.type "list") (fun xs H Q => ∃ z : Str, xs = [.str z] ∧ z.length ≤ 1000 ∧ ∀ l, H l = none → Q (.ref l) (upd H l (.lst ((chars z).map V.str)))) := by
  intro pins s σ H xs us Q I r h
  obtain ⟨z, rfl, hz, q⟩ := h
  obtain ⟨u, rfl, rx⟩ := vals1 r
  obtain ⟨t, rfl⟩ := rx
  have hz' : z.cps.size ≤ 1000 := hz
  refine call_list_str (I.ok.hd hcalm) z t (hn := Nat.le_trans hz' (by decide)) fun h' tk acc' c' kp e hacc => ?_
  have r' : Vals ((chars z).map V.str) acc'.toList := by
    rw [chars, List.map_map]
    refine vals_signs z.cps.toList acc'.toList (by rw [Array.length_toList, Array.length_toList]; exact hacc.1) fun j v hv => ?_
    obtain ⟨c, u, hc, ev⟩ := hacc.2 j v (by simpa using hv)
    exact ⟨c, u, by simpa using hc, ev⟩
  exact ⟨.ref s.heap.objs.size, _, I.laid (t' := tk) kp (Nat.le_refl _) (show ObjOk X.prog X.w _ h' _ (.lst ((chars z).map V.str)) from ⟨by rw [List.length_map, chars, List.length_map, Array.length_toList]; exact Nat.le_trans hz' (by decide), acc'.toList, c', r', e⟩), rfl, q _ (I.hok.fresh (Nat.le_refl _))⟩
end
end L2
namespace My
open PySem PySem.Spec PyProof.Rows L2
theorem DGs.ofS {S : Addr → Prop} {H : Hp} : ∀ {zs : List Str}, DGs S H (zs.map V.str) (zs.map PyData.str)
  | [] => .nil
  | z :: zs => .cons (.str z) DGs.ofS
theorem DG.lstU {S : Addr → Prop} {H : Hp} {v : V} {ds : List PyData} (h : DG S H v (.list ds)) : ∃ a xs, v = .ref a ∧ H a = some (.lst xs) ∧ ¬ S a ∧ DGs S H xs ds := by
  cases h with
  | lst h n hs => exact ⟨_, _, rfl, h, n, hs⟩
theorem new_nS {S : Addr → Prop} {H H' : Hp} {q : Addr} (hq : H' q = none) (s : Same H H') (dom : ∀ a, S a → H a ≠ none) : ¬ S q := fun z => dom _ z (by
  cases e : H q with
  | none => rfl
  | some u => rw [s _ _ e] at hq; cases hq)
theorem DGs.unstr {S : Addr → Prop} {H : Hp} : ∀ {zs : List Str} {vs : List V}, DGs S H vs (zs.map PyData.str) → vs = zs.map V.str
  | [], _, .nil => rfl
  | z :: zs, _, .cons a b => by cases a; rw [DGs.unstr b]; rfl
/-- z k times, sign by sign -/
def repT (z : Str) (k : Nat) : Str := ⟨(List.replicate k z.cps.toList).flatten.toArray⟩
theorem rep_eq (a : Array Nat) : ∀ (k : Nat) (b : Array Nat), ((List.replicate k a).foldl (· ++ ·) b) = b ++ (List.replicate k a.toList).flatten.toArray
  | 0, b => by simp
  | k + 1, b => by rw [List.replicate_succ, List.foldl_cons, rep_eq a k (b ++ a), List.replicate_succ, List.flatten_cons, List.append_toArray]; simp
section
variable {X : Cx} {ρ : Rho} {a b e o : Expr} {ds es : List PyData} {pos p apos : Pos} {k : Nat} {x : Str}
theorem d_catL (h : ED X ρ a (.list ds)) (h2 : ED X ρ b (.list es)) (l : ds.length + es.length ≤ 1000) : ED X ρ (.BinOp a .Add b pos) (.list (ds ++ es)) := fun S σ H Q sl q => by
  refine e_cat (h S σ H _ sl fun v1 H1 s1 g1 => h2 S σ H1 _ (sl.same s1) fun v2 H2 s2 g2 => ?_)
  obtain ⟨o, xs, rfl, ho, no, gx⟩ := DG.lstU g1
  obtain ⟨m, zs, rfl, hm, nm, gz⟩ := DG.lstU g2
  have l1 := gx.length
  have l2 := gz.length
  exact ⟨o, m, xs, zs, rfl, rfl, s2 _ _ ho, hm, Nat.le_trans (show xs.length + zs.length ≤ 1000 by omega) (by decide), fun q' hq => q _ _ ((s1.trans s2).trans (same_new hq)) (.lst upd_same (new_nS hq (s1.trans s2) sl.dom) (((gx.same s2).append gz).same (same_new hq)))⟩
/-- list * k -/
theorem d_mulL (h : ED X ρ a (.list ds)) (hb : ED X ρ b (.int (k : Int))) (h1 : ds.length ≤ 1000) (h2 : k ≤ 1000) : ED X ρ (.BinOp a .Mult b pos) (.list (List.replicate k ds).flatten) := fun S σ H Q sl q => by
  refine e_op op_mulL (h S σ H _ sl fun v H1 s1 g1 => hb S σ H1 _ (sl.same s1) fun u H2 s2 g2 => ?_)
  cases g2
  obtain ⟨o, xs, rfl, ho, no, gx⟩ := DG.lstU g1
  have l1 := gx.length
  exact ⟨o, _, xs, rfl, rfl, .inl (.inl (s2 _ _ ho)), by omega, by omega, by omega, fun q' hq => q _ _ ((s1.trans s2).trans (same_new hq)) (.lst upd_same (new_nS hq (s1.trans s2) sl.dom) (((gx.same s2).flat k).same (same_new hq)))⟩
/-- text * k -/
theorem d_mulS2 {z : Str} (h : ED X ρ a (.str z)) (hb : ED X ρ b (.int (k : Int))) (h0 : 1 ≤ z.length) (h1 : z.length ≤ 100) (h2 : 2 ≤ k) (h3 : k ≤ 10000) : ED X ρ (.BinOp a .Mult b pos) (.str (repT z k)) := fun S σ H Q sl q =>
  e_op op_mulS2 (h S σ H _ sl fun v H1 s1 g1 => hb S σ H1 _ (sl.same s1) fun u H2 s2 g2 => by
    cases g1; cases g2
    refine ⟨z, _, rfl, rfl, by omega, by omega, h0, h1, ?_⟩
    have e : (⟨(List.replicate ((k : Int)).toNat z.cps).foldl (· ++ ·) #[]⟩ : Str) = repT z k := by
      rw [rep_eq, Int.toNat_natCast, Array.empty_append]; rfl
    rw [e]
    exact q _ _ (s1.trans s2) (.str _))
theorem d_addS {y z : Str} (h : ED X ρ a (.str y)) (hb : ED X ρ b (.str z)) (l : y.length + z.length ≤ 100000) : ED X ρ (.BinOp a .Add b pos) (.str (y ++ z)) := fun S σ H Q sl q =>
  e_addS (h S σ H _ sl fun v H1 s1 g1 => hb S σ H1 _ (sl.same s1) fun u H2 s2 g2 => by
    cases g1; cases g2
    exact ⟨y, z, rfl, rfl, Nat.le_trans l (by decide), q _ _ (s1.trans s2) (.str _)⟩)
theorem d_listS {z : Str} (hm : X.mg "list" = none) (h : ED X ρ e (.str z)) (l : z.length ≤ 1000) (hc : X.calm = true := by rfl) (hg : Gl X "list" := by rfl)
    (he : starEach [e] X.env = (false, eval e X.env) :: starEach [] X.env := by rfl) (hpl : (backTo pos (starEach [] X.env)).any (·.1) = false := by rfl) : ED X ρ (.Call (.Name "list" p) [e] [] pos) (.list ((chars z).map PyData.str)) := fun S σ H Q sl q =>
  e_callT (call_list_ofS hc) hm PyProof.Rows.boot_list (a_cons (h S σ H _ sl fun v H1 s1 g1 => by
    cases g1
    exact a_nil ⟨z, rfl, l, fun q' hq => q _ _ (s1.trans (same_new hq)) (.lst upd_same (new_nS hq s1 sl.dom) DGs.ofS)⟩) he) hg (by decide) (by decide) he hpl
/-- sep.join(list) -/
theorem d_joinL {sep : Str} {zs : List Str} (ho : ED X ρ o (.str sep)) (h : ED X ρ e (.list (zs.map PyData.str))) (l : (zs.map (·.length)).sum + zs.length * sep.length ≤ 100000)
    (hs : starEach [e] X.env = [(false, eval e X.env)] := by rfl) (hbase : attributeBase o "join" X.env (eval o X.env) = eval o X.env := by rfl) (hline : (apos.endLine == pos.line) = true := by rfl) :
    ED X ρ (.Call (.Attribute o "join" apos) [e] [] pos) (.str (Txt.join sep zs)) := fun S σ H Q sl q =>
  e_join (ho S σ H _ sl fun v H1 s1 g1 => by
    cases g1
    refine ⟨sep, rfl, h S σ H1 _ (sl.same s1) fun v H2 s2 g2 => ?_⟩
    obtain ⟨m, xs, rfl, hm, nm, gx⟩ := DG.lstU g2
    rw [gx.unstr] at hm
    exact ⟨m, zs, rfl, .inl (.inl (.inl hm)), Nat.le_trans l (by decide), q _ _ (s1.trans s2) (.str _)⟩) hs hbase hline
/-- text[:i] -/
theorem d_slSto {z : Str} {i : Int} {hi : Expr} {p2 : Pos} (h : ED X ρ e (.str z)) (h1 : ED X ρ hi (.int i)) (l : z.length ≤ 1000) : ED X ρ (.Subscript e (.Slice none (some hi) none p2) pos) (.str (cutS z none (some i))) := fun S σ H Q sl q =>
  e_slSto (h S σ H _ sl fun v H1 s1 g1 => h1 S σ H1 _ (sl.same s1) fun u H2 s2 g2 => by
    cases g1; cases g2
    exact ⟨i, z, rfl, rfl, Nat.le_trans l (by decide), q _ _ (s1.trans s2) (.str _)⟩)
end
end My
namespace My
open PySem PySem.Spec PyProof.Rows L2
/-- y + z, sign by sign -/
def catT (y z : Str) : Str := ⟨(y.cps.toList ++ z.cps.toList).toArray⟩
theorem catT_eq (y z : Str) : y ++ z = catT y z := by
  have e : (y ++ z).cps = (catT y z).cps := by
    show y.cps ++ z.cps = _
    unfold catT
    simp
  cases h : (y ++ z) with
  | mk a => rw [h] at e; show (⟨a⟩ : Str) = ⟨(catT y z).cps⟩; rw [← e]
theorem catT_len (y z : Str) : (catT y z).length = y.length + z.length := by
  show (y.cps.toList ++ z.cps.toList).toArray.size = y.cps.size + z.cps.size
  simp
theorem repT_len (z : Str) (k : Nat) : (repT z k).length = k * z.length := by
  show (List.replicate k z.cps.toList).flatten.toArray.size = _
  rw [List.size_toArray, PyProof.Rows.lm_len_rep_flat]
  rfl
theorem catT_sm {y z : Str} (hy : Sm y) (hz : Sm z) : Sm (catT y z) := fun c hc => by
  have h : c ∈ y.cps.toList ++ z.cps.toList := by simpa [catT] using hc
  rcases List.mem_append.mp h with h | h
  · exact hy c h
  · exact hz c h
theorem repT_sm {z : Str} {k : Nat} (hz : Sm z) : Sm (repT z k) := fun c hc => by
  have h : c ∈ (List.replicate k z.cps.toList).flatten := by simpa [repT] using hc
  obtain ⟨l, h1, h2⟩ := List.mem_flatten.mp h
  rw [(List.mem_replicate.mp h1).2] at h2
  exact hz c h2
theorem d_addC {X : Cx} {ρ : Rho} {a b : Expr} {pos : Pos} {y z : Str} (h : ED X ρ a (.str y)) (hb : ED X ρ b (.str z)) (l : y.length + z.length ≤ 100000) : ED X ρ (.BinOp a .Add b pos) (.str (catT y z)) := catT_eq y z ▸ d_addS h hb l
end My

namespace My
open PySem PySem.Spec PyProof.Rows L2
/-! ### comprehensions over zip of two tuples -/
theorem lc_zipT {K : PySem.W.Frag} {a b : Addr} {xs ys : List V} {g : TG} {tt : TT} {te : TE} {vs : List Nat} {σ : L2.St} {H1 : Hp} {D : Addr} {Qd : Hp → Prop} (hl : xs.length = ys.length) (Pv : Nat → Hp → Prop) (h0 : Pv 0 (upd H1 D (.lst []))) (hq : ∀ i H, Pv i H → SqT K H a xs ∧ SqT K H b ys)
    (hs : ∀ (i : Nat) (x y : V) (T : Addr) (H : Hp), xs[i]? = some x → ys[i]? = some y → Pv i H → H T = none → g (.ref T) (wipe σ vs) (upd H T (.tup [x, y])) fun σ2 H2 => wipe σ2 vs = wipe σ vs ∧ tt σ2 H2 fun b H3 =>
      if b = true then te σ2 H3 fun y H4 => ∃ acc, H4 D = some (.lst acc) ∧ acc.length < sizeLine ∧ Pv (i + 1) (upd H4 D (.lst (acc ++ [y]))) else Pv (i + 1) H3) (hd : ∀ H, Pv xs.length H → Qd H) :
    ∃ W : Nat → Nat → Hp → Prop, (∃ m, W 0 m (upd H1 D (.lst []))) ∧ ∀ i m H, W i m H →
      ((RZ.ItzT K a b).stop i H ∧ Qd H) ∨ ((RZ.ItzT K a b).go i H ∧ ∃ Nx : Hp → Prop, (∀ H', Nx H' → ∃ m', m' < m ∧ W (i + 1) m' H') ∧ ∀ x H', (RZ.ItzT K a b).yld i H x H' → g x (wipe σ vs) H' fun σ2 H2 => wipe σ2 vs = wipe σ vs ∧ tt σ2 H2 fun b H3 =>
        if b = true then te σ2 H3 fun y H4 => ∃ acc, H4 D = some (.lst acc) ∧ acc.length < sizeLine ∧ Nx (upd H4 D (.lst (acc ++ [y]))) else Nx H3) := by
  refine ⟨fun i m H => m = xs.length - i ∧ i ≤ xs.length ∧ Pv i H, ⟨xs.length, by simp, Nat.zero_le _, h0⟩, ?_⟩
  rintro i m H ⟨rfl, hi, p⟩
  obtain ⟨qx, qy⟩ := hq i H p
  by_cases hlt : i < xs.length
  · have hx : xs[i]? = some xs[i] := List.getElem?_eq_getElem hlt
    have hlt2 : i < ys.length := by omega
    have hy : ys[i]? = some ys[i] := List.getElem?_eq_getElem hlt2
    refine .inr ⟨⟨xs, ys, _, _, qx, qy, hx, hy⟩, Pv (i + 1), fun H' p' => ⟨xs.length - (i + 1), by omega, rfl, hlt, p'⟩, fun v H' y => ?_⟩
    obtain ⟨T, x', y', rfl, hT, rfl, f1, f2⟩ := y
    exact hs i x' y' T H (f1 xs qx) (f2 ys qy) p hT
  · have e : i = xs.length := by omega
    subst e
    exact .inl ⟨⟨xs, ys, qx, qy, .inl (Nat.le_refl _)⟩, hd H p⟩
section
variable {X : Cx} {σ : L2.St} {H : Hp} {Q : VK} {elt e1 e2 : Expr} {elts : List Expr} {scope : Scope} {pos p pc tpos : Pos} {kk : Nat} {g : TG}
theorem e_lcZ (own : List (Str × Nat)) (hm : X.mg "zip" = none) (hN : X.N.Nodup) (ok : BlkOk X.N X.env.scope scope own)
    (h : WA X [e1, e2] σ H fun vs H1 => ∃ a b xs ys, vs = [.ref a, .ref b] ∧ SqT X.K H1 a xs ∧ SqT X.K H1 b ys ∧ xs.length = ys.length ∧ ∀ D, H1 D = none → ∃ Pv : Nat → Hp → Prop, Pv 0 (upd H1 D (.lst [])) ∧ (∀ i H, Pv i H → SqT X.K H a xs ∧ SqT X.K H b ys) ∧
      (∀ (i : Nat) (x y : V) (T : Addr) (H : Hp), xs[i]? = some x → ys[i]? = some y → Pv i H → H T = none → g (.ref T) (wipe σ (own.map (·.2))) (upd H T (.tup [x, y])) fun σ2 H2 => wipe σ2 (own.map (·.2)) = wipe σ (own.map (·.2)) ∧ WB X scope elt σ2 H2 fun z H4 => ∃ acc, H4 D = some (.lst acc) ∧ acc.length < sizeLine ∧ Pv (i + 1) (upd H4 D (.lst (acc ++ [z])))) ∧
      ∀ H, Pv xs.length H → Q (.ref D) H)
    (hg : ∀ (s : Shared) (H : Hp) (C : Addr) (cl : List (Str × Addr)) (fp : List Addr), PG (X.blk s H scope (compEnvC scope cl C X.env) fp) (.Tuple elts kk tpos) g)
    (hgl : Gl X "zip" := by rfl) (hs1 : starEach [e1, e2] X.env = (false, eval e1 X.env) :: starEach [e2] X.env := by rfl) (hpl : (backTo pc (starEach [e2] X.env)).any (·.1) = false := by rfl)
    (hc : X.calm = true := by rfl) (hs : ∀ z, foldedSetIterable (.Call (.Name "zip" p) [e1, e2] [] pc) X.env z = pure z := by intro _; rfl) :
    WE X (.ListComp elt [⟨.Tuple elts kk tpos, .Call (.Name "zip" p) [e1, e2] [] pc, [], 0⟩] scope pos) σ H Q :=
  toE (pe_lc (own := own) (te := WB X scope elt) hc hN (RZ.pi_zipA hgl hm (pA (es := [e1, e2])) hs1 hpl) ok hg (fun _ _ _ _ _ => pts_nil) (fun s H0 C cl fp => ⟨fun pins s' σ' H' Q' I q => (q s H0 C cl fp).go pins s' I⟩) hs)
    (WA.mono h fun vs H1 ⟨a, b, xs, ys, e, sx, sy, hl, k⟩ => ⟨a, b, xs, ys, e, .inr ⟨sx, sy, fun D nD => by
      obtain ⟨Pv, p0, pq, ps, pd⟩ := k D nD
      exact lc_zipT (te := WB X scope elt) (tt := tYes) (vs := own.map (·.2)) (σ := σ) hl Pv p0 pq ps pd⟩⟩)
end
/-! ### [elt for x, y in a tuple of pairs] -/
section
variable {X : Cx} {ρ : Rho} {a b c e o elt iter : Expr} {es rest : List Expr} {d d1 d2 : PyData} {ds : List PyData} {pos apos p p2 p3 pc pt r1 r2 : Pos} {x y : Str} {k m : Bool} {scope : Scope} {kt : Nat}
theorem set4 {α : Type} (l : List (Option α)) {i j : Nat} (ij : i ≠ j) (x y : Option α) : (((l.set i none).set j none).set i x).set j y = (l.set i x).set j y := by
  rw [List.set_comm none none ij, List.set_set, List.set_comm (l := l) none x ij.symm, List.set_set]
theorem wipe2 (σ : L2.St) {i j : Nat} (ij : i ≠ j) : wipe σ [i, j] = (σ.set i none).set j none := by
  show (σ.set j none).set i none = _
  rw [List.set_comm none none ij]
theorem wipe4 (σ : L2.St) {i j : Nat} (ij : i ≠ j) (x y : V) : wipe ((((wipe σ [i, j])).set i (some x)).set j (some y)) [i, j] = wipe σ [i, j] := by
  rw [wipe2 σ ij, wipe2 _ ij, set4 σ ij, List.set_comm (some y) none ij.symm, List.set_set, List.set_set]
theorem d_lcT2 (i j : Nat) (f : PyData → PyData) (ij : i ≠ j) (hN : X.N.Nodup) (okb : BlkOk X.N X.env.scope scope [(x, i), (y, j)]) (h : ED X ρ iter (.tuple ds)) (l : ds.length ≤ 1000) (hp : ∀ d ∈ ds, ∃ u w, d = .tuple [u, w] ∧ BD X scope ((ρ.set i (some u)).set j (some w)) elt (f d))
    (hg : ∀ (s : Shared) (H : Hp) (C : Addr) (cl : List (Str × Addr)) (fp : List Addr), PG (X.blk s H scope (compEnvC scope cl C X.env) fp) (.Tuple [.Name x r1, .Name y r2] kt pt) (gTup X.K 2 (gCons (gName i) (gCons (gName j) gNil))))
    (hc : X.calm = true := by rfl) (hs : ∀ z, foldedSetIterable iter X.env z = pure z := by intro _; rfl) : ED X ρ (.ListComp elt [⟨.Tuple [.Name x r1, .Name y r2] kt pt, iter, [], 0⟩] scope pos) (.list (ds.map f)) := fun S σ H Q sl q => by
  refine toE (pe_lc (own := [(x, i), (y, j)]) (te := WB X scope elt) hc hN (pi_tup pE) okb hg (fun _ _ _ _ _ => pts_nil) (fun s H0 C cl fp => ⟨fun pins s' σ' H' Q' I q => (q s H0 C cl fp).go pins s' I⟩) hs) (h S σ H _ sl fun v H1 s1 g1 => ?_)
  obtain ⟨a, xs, rfl, ha, hds, sq⟩ := g1.seq (K := X.K)
  refine ⟨a, rfl, ⟨xs, sq⟩, fun D nD => ?_⟩
  have sl1 := sl.same s1
  have slD := sl1.and1 (o := .lst []) nD
  have hdsD := hds.mono (T := And1 S D) (My.Same.tups (same_new (o := .lst []) nD)) fun a u n e => ⟨fun z => z.elim n fun z => (by rw [z, nD] at e; cases e), by rw [upd_ne (ne_of_none e nD)]; exact e⟩
  have lx := hds.length
  refine lc_tup (xs := xs) (g := gTup X.K 2 (gCons (gName i) (gCons (gName j) gNil))) (tt := tYes) (te := WB X scope elt) (vs := [i, j]) (σ := σ) (fun i H' => ∃ ys, (∀ b o, b ≠ D → (L2.upd H1 D (.lst [])) b = some o → H' b = some o) ∧ H' D = some (.lst ys) ∧ ys.length = i ∧ DGs (And1 S D) H' ys ((ds.take i).map f)) ?_ ?_ ?_ ?_
  · exact ⟨[], fun b o _ e => e, upd_same, rfl, .nil⟩
  · rintro i H' _ ⟨ys, k1, _⟩
    exact .inl (.inl (k1 a _ (ne_of_none ha nD) (same_new nD _ _ ha)))
  · rintro n v H' hi ⟨ys, k1, k2, k3, k4⟩
    obtain ⟨d, hd, hy⟩ := hdsD.get hi
    have keep : ∀ {v : V} {d : PyData}, DG (And1 S D) (L2.upd H1 D (.lst [])) v d → DG (And1 S D) H' v d := fun g => g.mono (fun b xs e => k1 b _ (ne_of e upd_same (fun z => by cases z)) e) fun a o n e => ⟨n, k1 a o (fun z => n (.inr z)) e⟩
    have slp : SL (And1 S D) H' σ ρ := ⟨fun b z w => by
      cases e : (L2.upd H1 D (.lst [])) b with
      | none => exact slD.dom b z e
      | some o =>
        by_cases bD : b = D
        · rw [bD, k2] at w; cases w
        · (rw [k1 b o bD e] at w; cases w), fun i d q => let ⟨v, a, b⟩ := slD.look i d q; ⟨v, a, keep b⟩, slD.len⟩
    obtain ⟨u, w, ed, hb⟩ := hp d (List.mem_of_getElem? hd)
    subst ed
    obtain ⟨t, ts, rfl, ht, hts, sqt⟩ := (keep hy).seq (K := X.K)
    cases hts with
    | cons gu r => cases r with
      | cons gw r =>
        cases r
        rename_i vu vw
        refine ⟨t, _, rfl, sqt, rfl, _, _, rfl, _, _, rfl, rfl, wipe4 σ ij vu vw, ?_⟩
        show WB X scope elt _ _ _
        have sl2 := (SL.set (i := i) slp gu).set (i := j) gw
        have ew : (((wipe σ [i, j]).set i (some vu)).set j (some vw)) = (σ.set i (some vu)).set j (some vw) := by rw [wipe2 σ ij, set4 σ ij]
        rw [ew]
        intro s0 H00 C cl fp
        refine hb s0 H00 C cl fp (And1 S D) _ H' _ sl2 fun z H4 s4 g4 => ?_
        have h4 := s4 _ _ k2
        refine ⟨ys, h4, by rw [k3]; exact Nat.lt_of_lt_of_le (show n < 1001 by have := (List.getElem?_eq_some_iff.mp hd).1; omega) (by decide), ys ++ [z], fun b o n e => ?_, upd_same, by rw [List.length_append, k3]; rfl, ?_⟩
        · rw [upd_ne n]; exact s4 _ _ (k1 b o n e)
        · have lt : n < ds.length := (List.getElem?_eq_some_iff.mp hd).1
          have e : ds[n] = .tuple [u, w] := by rw [List.getElem?_eq_getElem lt] at hd; exact Option.some.inj hd
          rw [List.take_succ_eq_append_getElem lt, List.map_append, e]
          exact ((k4.same s4).append (.cons g4 .nil)).put h4
  · rintro H' ⟨ys, k1, k2, k3, k4⟩
    rw [lx, List.take_length] at k4
    refine q _ H' (s1.trans fun b o e => k1 b o (ne_of_none e nD) (same_new nD b o e)) (.lst k2 (fun z => sl1.dom D z nD) k4.un1)
/-- sep.join(tuple) -/
theorem d_joinT {sep : Str} {zs : List Str} (ho : ED X ρ o (.str sep)) (h : ED X ρ e (.tuple (zs.map PyData.str))) (l : (zs.map (·.length)).sum + zs.length * sep.length ≤ 100000)
    (hs : starEach [e] X.env = [(false, eval e X.env)] := by rfl) (hbase : attributeBase o "join" X.env (eval o X.env) = eval o X.env := by rfl) (hline : (apos.endLine == pos.line) = true := by rfl) :
    ED X ρ (.Call (.Attribute o "join" apos) [e] [] pos) (.str (Txt.join sep zs)) := fun S σ H Q sl q =>
  e_join (ho S σ H _ sl fun v H1 s1 g1 => by
    cases g1
    refine ⟨sep, rfl, h S σ H1 _ (sl.same s1) fun v H2 s2 g2 => ?_⟩
    obtain ⟨m, xs, rfl, hm, gx, sq⟩ := g2.seq (K := X.K)
    rw [gx.unstr] at sq
    exact ⟨m, zs, rfl, .inr sq, Nat.le_trans l (by decide), q _ _ (s1.trans s2) (.str _)⟩) hs hbase hline
/-- str(e) of an int, of a text -/
def numT (i : Int) : Str := toString i
theorem d_strI {i : Int} (hm : X.mg "str" = none) (h : ED X ρ e (.int i)) (hi : i.natAbs.log2 < 1920) (hg : Gl X "str" := by rfl) (he : starEach [e] X.env = (false, eval e X.env) :: starEach [] X.env := by rfl) :
    ED X ρ (.Call (.Name "str" p) [e] [] pos) (.str (numT i)) := fun S σ H Q sl q =>
  e_callT call_str_int hm PyProof.Rows.boot_str (a_cons (h S σ H _ sl fun v H1 s1 g1 => by cases g1; exact a_nil ⟨i, rfl, hi, q _ H1 s1 (.str _)⟩) he) hg (by decide) (by decide) he rfl
theorem d_strS {z : Str} (hm : X.mg "str" = none) (h : ED X ρ e (.str z)) (hg : Gl X "str" := by rfl) (he : starEach [e] X.env = (false, eval e X.env) :: starEach [] X.env := by rfl) :
    ED X ρ (.Call (.Name "str" p) [e] [] pos) (.str z) := fun S σ H Q sl q =>
  e_callT SkE.call_str_str hm PyProof.Rows.boot_str (a_cons (h S σ H _ sl fun v H1 s1 g1 => by cases g1; exact a_nil ⟨z, rfl, q _ H1 s1 (.str _)⟩) he) hg (by decide) (by decide) he rfl
end
/-! ### dicts of the top with patterns: tuples of pairs of texts -/
inductive KParts (K : PySem.W.Frag) : List V → List (Str × Str) → Prop
  | nil : KParts K [] []
  | cons {b : Addr} {s w : Str} {ts : List V} {r : List (Str × Str)} (h : ∀ H, SqT K H b [.str s, .str w]) (t : KParts K ts r) : KParts K (.ref b :: ts) ((s, w) :: r)
structure KPat (K : PySem.W.Frag) (v : V) (pat : List (Str × Str)) : Prop where
  ex : ∃ a ts, v = .ref a ∧ (∀ H, SqT K H a ts) ∧ KParts K ts pat
/-- at a: a dict of patterns -/
def KTab (w : World) (K : PySem.W.Frag) (a : Addr) (tab : List (Str × List (Str × Str))) : Prop := ∀ x pat, (x, pat) ∈ tab → ∃ v, KDct K w a x v ∧ KPat K v pat
theorem KParts.length {K : PySem.W.Frag} : ∀ {ts : List V} {pat : List (Str × Str)}, KParts K ts pat → ts.length = pat.length
  | _, _, .nil => rfl
  | _, _, .cons _ t => congrArg (· + 1) t.length
theorem KParts.get {K : PySem.W.Frag} : ∀ {ts : List V} {pat : List (Str × Str)} {i : Nat} {v : V}, KParts K ts pat → ts[i]? = some v → ∃ b s w, v = .ref b ∧ pat[i]? = some (s, w) ∧ ∀ H, SqT K H b [.str s, .str w]
  | _, _, 0, _, .cons h t, e => by cases e; exact ⟨_, _, _, rfl, rfl, h⟩
  | _, _, i + 1, _, .cons h t, e => by
    obtain ⟨b, s, w, e1, e2, e3⟩ := KParts.get (i := i) t (by simpa using e)
    exact ⟨b, s, w, e1, by simpa using e2, e3⟩
  | _, _, 0, _, .nil, e => by cases e
  | _, _, i + 1, _, .nil, e => by cases e
theorem kseq_mk {K : PySem.W.Frag} {xs : List V} {a : Addr} {oc : Value} {od : Option Addr} {it : Array Value} {m : Nat} {osl : Array (Option Value)} (l : K.lookup a = some ⟨oc, od, .seq it m, osl⟩)
    (h1 : oc = .type "tuple") (h2 : it.size ≤ sizeLine) (h3 : Vals xs it.toList) : ∀ H, SqT K H a xs := fun _ => .inr ⟨_, it, m, l, h1, rfl, h2, h3⟩
inductive KTabL (K : PySem.W.Frag) (a : Addr) : List (Str × List (Str × Str)) → Prop
  | nil : KTabL K a []
  | cons {x : Str} {pat : List (Str × Str)} {pa : Addr} {r : List (Str × List (Str × Str))} (e : PySem.W.nsIn K a x = some (some (.ref pa))) (h : KPat K (.ref pa) pat) (t : KTabL K a r) : KTabL K a ((x, pat) :: r)
theorem KTabL.get {K : PySem.W.Frag} {a : Addr} : ∀ {tab : List (Str × List (Str × Str))} {x : Str} {pat : List (Str × Str)}, KTabL K a tab → (x, pat) ∈ tab → ∃ pa, PySem.W.nsIn K a x = some (some (.ref pa)) ∧ KPat K (.ref pa) pat
  | _, _, _, .nil, h => by cases h
  | _, _, _, .cons e k t, h => by
    rcases List.mem_cons.mp h with h | h
    · cases h; exact ⟨_, e, k⟩
    · exact t.get h
theorem ktab_mk {w : World} {K : PySem.W.Frag} {n : Str} {tab : List (Str × List (Str × Str))} {a : Addr} {oc : Value} {od : Option Addr} {es : Array DictEntry} {m : Nat} {osl : Array (Option Value)} (e : PySem.W.nsIn K mainGlobals n = some (some (.ref a))) (l : K.lookup a = some ⟨oc, od, .dict es m, osl⟩)
    (h1 : oc = .type "dict") (h2 : od = none) (h3 : osl = #[]) (hk : PySem.W.KeysLit w.params es.toList) (t : KTabL K a tab) : ∃ a, PySem.W.nsIn K mainGlobals n = some (some (.ref a)) ∧ KTab w K a tab := by
  subst h1 h2 h3
  refine ⟨a, e, fun x pat hm => ?_⟩
  obtain ⟨pa, e2, kp⟩ := t.get hm
  exact ⟨.ref pa, ⟨es, m, .ref pa, l, hk, e2, rfl⟩, kp⟩
theorem kpair_mk {K : PySem.W.Frag} {s w : Str} {b : Addr} {oc : Value} {od : Option Addr} {t1 t2 : Tok} {m : Nat} {osl : Array (Option Value)} (l : K.lookup b = some ⟨oc, od, .seq #[.str s t1, .str w t2] m, osl⟩) (h1 : oc = .type "tuple") : ∀ H, SqT K H b [.str s, .str w] :=
  kseq_mk l h1 (Nat.le_trans (show 2 ≤ 1000 by decide) (by decide)) (.cons ⟨_, rfl⟩ (.cons ⟨_, rfl⟩ .nil))
theorem kpat1 {K : PySem.W.Frag} {a b0 : Addr} {s0 w0 : Str} {oc : Value} {od : Option Addr} {m : Nat} {osl : Array (Option Value)} (l : K.lookup a = some ⟨oc, od, .seq #[.ref b0] m, osl⟩) (h1 : oc = .type "tuple")
    (p0 : ∀ H, SqT K H b0 [.str s0, .str w0]) : KPat K (.ref a) [(s0, w0)] :=
  ⟨⟨a, [.ref b0], rfl, kseq_mk l h1 (Nat.le_trans (show 1 ≤ 1000 by decide) (by decide)) (.cons rfl (.nil)), .cons p0 (.nil)⟩⟩
theorem kpat2 {K : PySem.W.Frag} {a b0 b1 : Addr} {s0 w0 s1 w1 : Str} {oc : Value} {od : Option Addr} {m : Nat} {osl : Array (Option Value)} (l : K.lookup a = some ⟨oc, od, .seq #[.ref b0, .ref b1] m, osl⟩) (h1 : oc = .type "tuple")
    (p0 : ∀ H, SqT K H b0 [.str s0, .str w0]) (p1 : ∀ H, SqT K H b1 [.str s1, .str w1]) : KPat K (.ref a) [(s0, w0), (s1, w1)] :=
  ⟨⟨a, [.ref b0, .ref b1], rfl, kseq_mk l h1 (Nat.le_trans (show 2 ≤ 1000 by decide) (by decide)) (.cons rfl (.cons rfl (.nil))), .cons p0 (.cons p1 (.nil))⟩⟩
theorem kpat3 {K : PySem.W.Frag} {a b0 b1 b2 : Addr} {s0 w0 s1 w1 s2 w2 : Str} {oc : Value} {od : Option Addr} {m : Nat} {osl : Array (Option Value)} (l : K.lookup a = some ⟨oc, od, .seq #[.ref b0, .ref b1, .ref b2] m, osl⟩) (h1 : oc = .type "tuple")
    (p0 : ∀ H, SqT K H b0 [.str s0, .str w0]) (p1 : ∀ H, SqT K H b1 [.str s1, .str w1]) (p2 : ∀ H, SqT K H b2 [.str s2, .str w2]) : KPat K (.ref a) [(s0, w0), (s1, w1), (s2, w2)] :=
  ⟨⟨a, [.ref b0, .ref b1, .ref b2], rfl, kseq_mk l h1 (Nat.le_trans (show 3 ≤ 1000 by decide) (by decide)) (.cons rfl (.cons rfl (.cons rfl (.nil)))), .cons p0 (.cons p1 (.cons p2 (.nil)))⟩⟩
theorem kpat4 {K : PySem.W.Frag} {a b0 b1 b2 b3 : Addr} {s0 w0 s1 w1 s2 w2 s3 w3 : Str} {oc : Value} {od : Option Addr} {m : Nat} {osl : Array (Option Value)} (l : K.lookup a = some ⟨oc, od, .seq #[.ref b0, .ref b1, .ref b2, .ref b3] m, osl⟩) (h1 : oc = .type "tuple")
    (p0 : ∀ H, SqT K H b0 [.str s0, .str w0]) (p1 : ∀ H, SqT K H b1 [.str s1, .str w1]) (p2 : ∀ H, SqT K H b2 [.str s2, .str w2]) (p3 : ∀ H, SqT K H b3 [.str s3, .str w3]) : KPat K (.ref a) [(s0, w0), (s1, w1), (s2, w2), (s3, w3)] :=
  ⟨⟨a, [.ref b0, .ref b1, .ref b2, .ref b3], rfl, kseq_mk l h1 (Nat.le_trans (show 4 ≤ 1000 by decide) (by decide)) (.cons rfl (.cons rfl (.cons rfl (.cons rfl (.nil))))), .cons p0 (.cons p1 (.cons p2 (.cons p3 (.nil))))⟩⟩
theorem kpat5 {K : PySem.W.Frag} {a b0 b1 b2 b3 b4 : Addr} {s0 w0 s1 w1 s2 w2 s3 w3 s4 w4 : Str} {oc : Value} {od : Option Addr} {m : Nat} {osl : Array (Option Value)} (l : K.lookup a = some ⟨oc, od, .seq #[.ref b0, .ref b1, .ref b2, .ref b3, .ref b4] m, osl⟩) (h1 : oc = .type "tuple")
    (p0 : ∀ H, SqT K H b0 [.str s0, .str w0]) (p1 : ∀ H, SqT K H b1 [.str s1, .str w1]) (p2 : ∀ H, SqT K H b2 [.str s2, .str w2]) (p3 : ∀ H, SqT K H b3 [.str s3, .str w3]) (p4 : ∀ H, SqT K H b4 [.str s4, .str w4]) : KPat K (.ref a) [(s0, w0), (s1, w1), (s2, w2), (s3, w3), (s4, w4)] :=
  ⟨⟨a, [.ref b0, .ref b1, .ref b2, .ref b3, .ref b4], rfl, kseq_mk l h1 (Nat.le_trans (show 5 ≤ 1000 by decide) (by decide)) (.cons rfl (.cons rfl (.cons rfl (.cons rfl (.cons rfl (.nil)))))), .cons p0 (.cons p1 (.cons p2 (.cons p3 (.cons p4 (.nil)))))⟩⟩
/-! ### defs by a relation on data -/
def spR (R : List PyData → PyData → Prop) : Sp := fun vs H Q _ => ∃ S ds d, DGs S H vs ds ∧ (∀ a, S a → H a ≠ none) ∧ R ds d ∧ ∀ v H', Same H H' → DG S H' v d → Q v H'
theorem d_callR {X : Cx} {ρ : Rho} {e : Expr} {es : List Expr} {ds : List PyData} {d : PyData} {x : Str} {p pos : Pos} {kk j : Nat} {R : List PyData → PyData → Prop} (cF : CalN X.prog X.w X.K X.mg X.base kk x (spR R)) (hr : Room j X.A) (hk : kk ≤ j) (h : AD X ρ (e :: es) ds) (hF : R ds d) (hg : Gl X x := by rfl)
    (hdb : (x == ("__debug__" : Str)) = false := by decide) (he : starEach (e :: es) X.env = (false, eval e X.env) :: starEach es X.env := by rfl) (hpl : (backTo pos (starEach es X.env)).any (·.1) = false := by rfl) : ED X ρ (.Call (.Name x p) (e :: es) [] pos) d := fun S σ H Q sl q =>
  e_c cF hr hk (h S σ H _ sl fun vs H1 s1 g1 => by
    rw [List.append_nil]
    exact ⟨S, ds, d, g1, in_same s1 sl.dom, hF, fun v H2 s2 g2 => q v H2 (s1.trans s2) g2⟩) hg hdb he hpl
theorem Fun.okR {P : Program} {w : World} {K : PySem.W.Frag} {mg : Str → Option Value} {base : Heap} {x qual : Str} {st : Stmt} {f : Addr} {fd : FuncData} {N ps : List Str} {k : Nat} {R : List PyData → PyData → Prop} (F : Fun K x qual st f fd) (S : FnScope N ps (defScope st))
    (len : ∀ ds d, R ds d → ds.length = ps.length)
    (body : ∀ (cdv : Value) (B : Around) (out : List Env) (s : Shared) (H : Hp) (E : XK) (ds : List PyData) (d : PyData), Room k (B.deeper (envOfC qual (defScope st) s.heap.objs.size f cdv)) → R ds d →
      LD (cxOf CX0 P w K mg base N qual (defScope st) f cdv B out s H E).nox (startD N ds) (defBody st) (.ret d)) : FnOk P w K mg base CX0 (k + 1) f fd ps (spR R) :=
  Fun.okW F S (fun vs H Q E ⟨S0, ds, d, g, _, e, _⟩ => by rw [g.length]; exact len ds d e) fun cdv B out s H vs Q E hr ⟨S0, ds, d, g, hS, e, q⟩ =>
    body cdv B out s H E ds d hr e S0 _ H _ (sl_start g hS) q
theorem sum_le {α : Type} {f : α → Nat} {b : Nat} : ∀ {l : List α}, (∀ x ∈ l, f x ≤ b) → (l.map f).sum ≤ l.length * b
  | [], _ => Nat.zero_le _
  | x :: l, h => by
    have h1 := h x List.mem_cons_self
    have h2 := sum_le (l := l) fun y hy => h y (List.mem_cons_of_mem _ hy)
    rw [List.map_cons, List.sum_cons, List.length_cons, Nat.add_mul, Nat.one_mul]
    omega
theorem len_join : ∀ (s : Str) (l : List Str), (Txt.join s l).length ≤ (l.map (·.length)).sum + l.length * s.length
  | s, [] => Nat.zero_le _
  | s, a :: l => by
    show (cs (Txt.join s (a :: l))).length ≤ _
    rw [cs_join, List.length_append, List.length_flatten, List.map_map, List.map_cons, List.sum_cons, List.length_cons, Nat.add_mul, Nat.one_mul]
    have e : ∀ m : List Str, (m.map (List.length ∘ fun p => cs s ++ cs p)).sum = (m.map (·.length)).sum + m.length * s.length := fun m => by
      induction m with
      | nil => simp
      | cons x m ih =>
        rw [List.map_cons, List.sum_cons, ih, List.map_cons, List.sum_cons, List.length_cons, Nat.add_mul, Nat.one_mul]
        show (cs s ++ cs x).length + _ = _
        rw [List.length_append]
        have e1 : (cs s).length = s.length := rfl
        have e2 : (cs x).length = x.length := rfl
        omega
    rw [e l]
    have e3 : (cs a).length = a.length := rfl
    omega
theorem lenC (a b : Str) : (a ++ b).length = a.length + b.length := by
  show (cs (a ++ b)).length = _
  rw [cs_cat, List.length_append]
  rfl
/-! ### texts with a bound on their length -/
structure EDS (X : Cx) (ρ : Rho) (e : Expr) (z : Str) (b : Nat) : Prop where
  h : ED X ρ e (.str z)
  l : z.length ≤ b
section
variable {X : Cx} {ρ : Rho} {a b e : Expr} {y z : Str} {m n : Nat} {pos p : Pos}
theorem eds_c {j} (h : z.length ≤ 100 := by decide) : EDS X ρ (.Constant (.str z) j p) z 100 := ⟨d_str z, h⟩
theorem eds_of (h : ED X ρ e (.str z)) (l : z.length ≤ n) : EDS X ρ e z n := ⟨h, l⟩
theorem eds_add (h : EDS X ρ a y m) (k : EDS X ρ b z n) (l : m + n ≤ 100000 := by decide) : EDS X ρ (.BinOp a .Add b pos) (y ++ z) (m + n) :=
  ⟨d_addS h.h k.h (by have := h.l; have := k.l; omega), by rw [lenC]; have := h.l; have := k.l; omega⟩
theorem EDS.cast (h : EDS X ρ e y n) (q : y = z) : EDS X ρ e z n := q ▸ h
end
/-! ### dicts with text keys -/
section
variable {X : Cx} {σ : L2.St} {H : Hp} {Q : VK} {D : Ends} {o e f v : Expr} {pos pos' apos : Pos}
theorem e_dnewK (q : ∀ p, H p = none → Q (.ref p) (upd H p (.dK []))) : WE X (.Dict [] [] pos) σ H Q := toE pe_dnewK q
/-- o.get(e, f) -/
theorem e_dgetS (hu : X.A.units + 1 < cLine) (h : WE X o σ H fun x H1 => ∃ a kvs, x = .ref a ∧ H1 a = some (.dK kvs) ∧ WE X e σ H1 fun y H2 => ∃ z : Str, y = .str z ∧ WE X f σ H2 fun u H3 => ∃ kvs, H3 a = some (.dK kvs) ∧ Q ((valV kvs (Sum.inr z)).getD u) H3)
    (base : attributeBase o "get" X.env (eval o X.env) = eval o X.env := by rfl)
    (few : ((backTo pos (starEach [e, f] X.env)).all (fun x => !x.1) && (backToKw pos (keywordEach [] X.env)).all (fun x => x.1.isSome) && decide (([e, f] : List Expr).length + ([] : List Keyword).length + (if ([] : List Keyword).isEmpty then 0 else 1) < 30)) = true := by rfl)
    (line : (apos.endLine == pos.line) = true := by rfl) (trees : backTo pos (starEach [e, f] X.env) = [(false, eval e X.env), (false, eval f X.env)] := by rfl) :
    WE X (.Call (.Attribute o "get" apos) [e, f] [] pos) σ H Q :=
  toE (pe_dget2 hu pE pE pE ⟨base, few, line, trees⟩) (WE.mono h fun x H1 ⟨a, kvs, ex, ha, k⟩ => ⟨a, ex, .inl ⟨kvs, .inl ha⟩, WE.mono k fun y H2 ⟨z, ez, k2⟩ => WE.mono k2 fun u H3 ⟨kvs3, h3, q⟩ => ⟨_, by rw [ez]; exact DGet.k (k := Sum.inr z) h3, q⟩⟩)
/-- o[e] = v -/
theorem s_dputS (hu : X.A.units + 1 < cLine) (h : WE X v σ H fun r H1 => WE X o σ H1 fun x H2 => WE X e σ H2 fun y H3 => ∃ a kvs, ∃ z : Str, x = .ref a ∧ y = .str z ∧ H3 a = some (.dK kvs) ∧ kvs.length < sizeLine ∧ D.nx σ (upd H3 a (.dK (putK kvs (Sum.inr z) r))))
    (hs : swapsWith v (some (.Subscript o e pos')) pos.line X.env = pure false := by rfl) : WS X (.Assign [.Subscript o e pos'] v pos) D σ H :=
  toS (ps_dput hu pE pE pE hs) (WE.mono h fun r H1 k => WE.mono k fun x H2 k2 => WE.mono k2 fun y H3 ⟨a, kvs, z, ex, ey, h3, hl, q⟩ => ⟨a, _, ex, by rw [ey]; exact DPut.k (k := Sum.inr z) h3 hl, q⟩)
end
end My

namespace My
open PySem PySem.Spec PyProof.Rows L2
/-! ### the pen -/
/-- the pen at p: the list (at L) of the script's first ints, how many were drawn, what is left of the last -/
def Pen (H : Hp) (p L : Addr) (n : Nat) : Prop := ∃ (ns : List Int) (i r : Int), H p = some (.lst [.ref L, .int i, .int r]) ∧ H L = some (.lst (ns.map V.int)) ∧ ns.length ≤ 100 ∧ 0 ≤ i ∧ i ≤ n ∧ L ≠ p
theorem Pen.mono {H : Hp} {p L : Addr} {n m : Nat} (h : Pen H p L n) (l : n ≤ m) : Pen H p L m := by
  obtain ⟨ns, i, r, h1, h2, h3, h4, h5, h6⟩ := h
  exact ⟨ns, i, r, h1, h2, h3, h4, by omega, h6⟩
theorem Pen.at {H H' : Hp} {p L : Addr} {n : Nat} (h : Pen H p L n) (e1 : H' p = H p) (e2 : H' L = H L) : Pen H' p L n := by
  obtain ⟨ns, i, r, h1, h2, h3⟩ := h
  exact ⟨ns, i, r, e1.trans h1, e2.trans h2, h3⟩
theorem Pen.same {H H' : Hp} {p L : Addr} {n : Nat} (h : Pen H p L n) (e : Same H H') : Pen H' p L n := by
  obtain ⟨ns, i, r, h1, h2, h3⟩ := h
  exact ⟨ns, i, r, e _ _ h1, e _ _ h2, h3⟩
theorem Pen.p {H : Hp} {p L : Addr} {n : Nat} (h : Pen H p L n) : ∃ xs, H p = some (.lst xs) := by
  obtain ⟨ns, i, r, h1, _⟩ := h
  exact ⟨_, h1⟩
theorem Pen.l {H : Hp} {p L : Addr} {n : Nat} (h : Pen H p L n) : ∃ xs, H L = some (.lst xs) := by
  obtain ⟨ns, i, r, _, h1, _⟩ := h
  exact ⟨_, h1⟩
/-- an object that is written and is not the pen's -/
theorem Pen.upd {H : Hp} {p L q : Addr} {n : Nat} {o : HO} (h : Pen H p L n) (h1 : q ≠ p) (h2 : q ≠ L) : Pen (upd H q o) p L n := h.at (upd_ne h1.symm) (upd_ne h2.symm)
theorem Pen.newP {H : Hp} {p L q : Addr} {n : Nat} (h : Pen H p L n) (hq : H q = none) : q ≠ p := fun e => by obtain ⟨xs, h1⟩ := h.p; rw [e, h1] at hq; cases hq
theorem Pen.newL {H : Hp} {p L q : Addr} {n : Nat} (h : Pen H p L n) (hq : H q = none) : q ≠ L := fun e => by obtain ⟨xs, h1⟩ := h.l; rw [e, h1] at hq; cases hq
theorem Pen.tups {H H' : Hp} {p L : Addr} {n : Nat} (h : Pen H p L n) (b : But p H H') : Tup H H' := by obtain ⟨xs, h1⟩ := h.p; exact b.tups h1
theorem cut_len (ns : List Int) (k : Int) : ∃ ms : List Int, cutV (ns.map V.int) none (some k) = ms.map V.int ∧ ms.length ≤ ns.length := by
  refine ⟨(ns.drop (HT.sIx (ns.map V.int).length 0 none)).take (HT.sIx (ns.map V.int).length (ns.map V.int).length (some k) - HT.sIx (ns.map V.int).length 0 none), ?_, ?_⟩
  · unfold cutV
    rw [← List.map_drop, ← List.map_take]
  · rw [List.length_take, List.length_drop]
    omega
/-- what the top leaves of the built-in names -/
structure Bl (mg : Str → Option Value) : Prop where
  list : mg "list" = none
  len : mg "len" = none
  int : mg "int" = none
def spPen (K : PySem.W.Frag) : Sp := fun vs H Q _ => ∃ (a : Addr) (ns : List Int), vs = [.ref a] ∧ SqL K H a (ns.map V.int) ∧ ns.length ≤ 63 ∧ ∀ p L H', Same H H' → H p = none → H L = none → Pen H' p L 0 → Q (.ref p) H'
def spNext : Sp := fun vs H Q _ => ∃ (p L : Addr) (n : Nat), vs = [.ref p] ∧ Pen H p L n ∧ n < 2 ^ 40 ∧ ∀ (z : Int) H', But p H H' → Pen H' p L (n + 1) → Q (.int z) H'
def spDraw : Sp := fun vs H Q _ => ∃ (p L : Addr) (n : Nat) (u : Int), vs = [.ref p, .int u] ∧ Pen H p L n ∧ n < 2 ^ 40 ∧ 0 < u ∧ u < 1073741824 ∧ ∀ (d : Nat) H', But p H H' → Pen H' p L (n + 1) → (d : Int) < u → Q (.int d) H'
/-! ### the layer of drawn data: slots hold data, the pen stands in slot 0 -/
structure GS (p L : Addr) (S : Addr → Prop) (H : Hp) (n : Nat) (σ : L2.St) (ρ : Rho) : Prop where
  sl : SL S H σ ρ
  sp : S p
  pen : Pen H p L n
  at0 : σ[0]? = some (some (.ref p))
section
variable {p L : Addr} {S : Addr → Prop} {H H' : Hp} {n m : Nat} {σ : L2.St} {ρ : Rho} {v : V} {d : PyData}
theorem GS.dg (g : GS p L S H n σ ρ) (b : But p H H') (h : DG S H v d) : DG S H' v d := h.mono (g.pen.tups b) fun a o na e => ⟨na, b a o (fun z => na (z ▸ g.sp)) e⟩
theorem GS.dgs (g : GS p L S H n σ ρ) (b : But p H H') {vs : List V} {ds : List PyData} (h : DGs S H vs ds) : DGs S H' vs ds := h.mono (g.pen.tups b) fun a o na e => ⟨na, b a o (fun z => na (z ▸ g.sp)) e⟩
theorem GS.but (g : GS p L S H n σ ρ) (b : But p H H') (P' : Pen H' p L m) : GS p L S H' m σ ρ :=
  ⟨g.sl.keep (g.pen.tups b) (fun a o na e => b a o (fun z => na (z ▸ g.sp)) e) (fun a ha => by
    by_cases e : a = p
    · obtain ⟨xs, h⟩ := P'.p
      rw [e, h]
      exact fun z => by cases z
    · cases q : H a with
      | none => exact absurd q (g.sl.dom a ha)
      | some o => rw [b a o e q]; exact fun z => by cases z), g.sp, P', g.at0⟩
theorem GS.same (g : GS p L S H n σ ρ) (s : Same H H') : GS p L S H' n σ ρ := g.but (But.of s) (g.pen.same s)
theorem GS.set (g : GS p L S H n σ ρ) {i : Nat} (hi : i ≠ 0) (h : DG S H v d) : GS p L S H n (σ.set i (some v)) (ρ.set i (some d)) :=
  ⟨g.sl.set h, g.sp, g.pen, by rw [List.getElem?_set_ne hi]; exact g.at0⟩
end
def EG (X : Cx) (ρ : Rho) (e : Expr) (Φ : PyData → Prop) (c : Nat) : Prop := ∀ (p L : Addr) (S : Addr → Prop) (σ : L2.St) (H : Hp) (n : Nat) (Q : VK), GS p L S H n σ ρ → n + c < 2 ^ 39 →
  (∀ v d H', But p H H' → Pen H' p L (n + c) → DG S H' v d → Φ d → Q v H') → WE X e σ H Q
def AG (X : Cx) (ρ : Rho) (es : List Expr) (Φ : List PyData → Prop) (c : Nat) : Prop := ∀ (p L : Addr) (S : Addr → Prop) (σ : L2.St) (H : Hp) (n : Nat) (U : List V → Hp → Prop), GS p L S H n σ ρ → n + c < 2 ^ 39 →
  (∀ vs ds H', But p H H' → Pen H' p L (n + c) → DGs S H' vs ds → Φ ds → U vs H') → WA X es σ H U
def TG (X : Cx) (ρ : Rho) (e : Expr) (c : Nat) : Prop := ∀ (p L : Addr) (S : Addr → Prop) (σ : L2.St) (H : Hp) (n : Nat) (R : Bool → Hp → Prop), GS p L S H n σ ρ → n + c < 2 ^ 39 →
  (∀ k H', But p H H' → Pen H' p L (n + c) → R k H') → WT X e σ H R
def LG (X : Cx) (ρ : Rho) (l : List Stmt) (Φ : PyData → Prop) (c : Nat) : Prop := ∀ (p L : Addr) (S : Addr → Prop) (σ : L2.St) (H : Hp) (n : Nat) (D : Ends), GS p L S H n σ ρ → n + c < 2 ^ 39 →
  (∀ v d H', But p H H' → Pen H' p L (n + c) → DG S H' v d → Φ d → D.rt v H') → WL X l D σ H
def BGd (X : Cx) (scope : Scope) (ρ : Rho) (e : Expr) (Φ : PyData → Prop) (c : Nat) : Prop := ∀ (s : Shared) (H0 : Hp) (C : Addr) (cl : List (Str × Addr)) (fp : List Addr), EG (X.blk s H0 scope (compEnvC scope cl C X.env) fp) ρ e Φ c
section
variable {X : Cx} {ρ : Rho} {a b e hi : Expr} {es : List Expr} {ds : List PyData} {d : PyData} {Φ Ψ Φ' : PyData → Prop} {c c1 c2 c' : Nat} {pos q1 q2 q3 p2 pt pc : Pos} {x y : Str} {l : List Stmt}
theorem eg_of (h : ED X ρ e d) : EG X ρ e (fun z => z = d) 0 := fun p L S σ H n Q g hn q => h S σ H Q g.sl fun v H' s gd => q v d H' (But.of s) (g.pen.same s) gd rfl
theorem EG.mono (h : EG X ρ e Φ c) (k : ∀ d, Φ d → Φ' d) (lc : c ≤ c') : EG X ρ e Φ' c' := fun p L S σ H n Q g hn q => h p L S σ H n Q g (by omega) fun v d H' b P' gd f => q v d H' b (P'.mono (by omega)) gd (k d f)
theorem LG.mono (h : LG X ρ l Φ c) (k : ∀ d, Φ d → Φ' d) (lc : c ≤ c') : LG X ρ l Φ' c' := fun p L S σ H n D g hn q => h p L S σ H n D g (by omega) fun v d H' b P' gd f => q v d H' b (P'.mono (by omega)) gd (k d f)
/-- a draw -/
theorem eg_draw {j : Nat} {u : Int} (cD : CalN X.prog X.w X.K X.mg X.base 2 "_law_draw" spDraw) (hr : Room j X.A) (hk : 2 ≤ j) (h : ED X ρ e (.int u)) (h0 : 0 < u) (h1 : u < 1073741824)
    (hN : X.N[0]? = some x := by rfl) (hv : Vis X.env.scope x := by first | exact Or.inl rfl | exact Or.inr (Or.inl rfl) | exact Or.inr (Or.inr rfl)) (hd : (x == ("__debug__" : Str)) = false := by decide) (hcd : (x == ("__classdict__" : Str)) = false := by decide)
    (hg : Gl X "_law_draw" := by rfl) (s1 : starEach [.Name x q2, e] X.env = (false, eval (.Name x q2) X.env) :: starEach [e] X.env := by rfl) (s2 : starEach [e] X.env = (false, eval e X.env) :: starEach [] X.env := by rfl) (hpl : (backTo pos (starEach [e] X.env)).any (·.1) = false := by rfl) :
    EG X ρ (.Call (.Name "_law_draw" q1) [.Name x q2, e] [] pos) (fun d => ∃ k : Nat, d = .int k ∧ (k : Int) < u) 1 := fun p L S σ H n Q g hn q =>
  e_c cD hr hk (a_cons (e_var 0 g.at0 (a_cons (h S σ H _ g.sl fun v H1 t1 g1 => by
    cases g1
    exact a_nil ⟨p, L, n, u, rfl, g.pen.same t1, by omega, h0, h1, fun d H' b P' hd => q _ _ H' ((But.of t1).trans b) P' (.int _) ⟨d, rfl, hd⟩⟩) s2) hN hv hd hcd) s1) hg (by decide) s1 hpl
/-- parts -/
theorem ag_nil : AG X ρ [] (fun ds => ds = []) 0 := fun p L S σ H n U g hn q => a_nil (q [] [] H (But.refl _ _) g.pen .nil rfl)
theorem ag_cons {Ψ : List PyData → Prop} (h : EG X ρ e Φ c1) (hs : AG X ρ es Ψ c2) (he : starEach (e :: es) X.env = (false, eval e X.env) :: starEach es X.env := by rfl) : AG X ρ (e :: es) (fun ds => ∃ d r, ds = d :: r ∧ Φ d ∧ Ψ r) (c1 + c2) := fun p L S σ H n U g hn q =>
  a_cons (h p L S σ H n _ g (by omega) fun v d H1 b1 P1 g1 f1 => hs p L S σ H1 (n + c1) _ (g.but b1 P1) (by omega) fun vs ds H2 b2 P2 g2 f2 => q (v :: vs) (d :: ds) H2 (b1.trans b2) (by rw [← Nat.add_assoc]; exact P2) (.cons ((g.but b1 P1).dg b2 g1) g2) ⟨d, ds, rfl, f1, f2⟩) he
theorem eg_tup {kk : Nat} {Ψ : List PyData → Prop} (h : AG X ρ es Ψ c) (hl : ∀ ds, Ψ ds → ds.length ≤ 1000) : EG X ρ (.Tuple es kk pos) (fun d => ∃ ds, d = .tuple ds ∧ Ψ ds) c := fun p L S σ H n Q g hn q =>
  e_tup (h p L S σ H n _ g hn fun vs ds H1 b1 P1 g1 f1 => ⟨by rw [g1.length]; exact Nat.le_trans (hl ds f1) (by decide), fun r hr => q _ _ _ (b1.trans (But.of (same_new hr))) (P1.same (same_new hr)) (.tup upd_same (g1.same (same_new hr))) ⟨ds, rfl, f1⟩⟩)
theorem eg_lst {Ψ : List PyData → Prop} (h : AG X ρ es Ψ c) (hl : ∀ ds, Ψ ds → ds.length ≤ 1000) : EG X ρ (.List es pos) (fun d => ∃ ds, d = .list ds ∧ Ψ ds) c := fun p L S σ H n Q g hn q =>
  e_lst (h p L S σ H n _ g hn fun vs ds H1 b1 P1 g1 f1 => ⟨by rw [g1.length]; exact Nat.le_trans (hl ds f1) (by decide), fun r hr => q _ _ _ (b1.trans (But.of (same_new hr))) (P1.same (same_new hr)) (.lst upd_same (fun z => (g.but b1 P1).sl.dom r z hr) (g1.same (same_new hr))) ⟨ds, rfl, f1⟩⟩)
theorem eg_addN {i : Nat} {Φ : Nat → Prop} (ha : ED X ρ a (.int (i : Int))) (hb : EG X ρ b (fun d => ∃ k : Nat, d = .int k ∧ Φ k) c) : EG X ρ (.BinOp a .Add b pos) (fun d => ∃ k : Nat, d = .int ((i + k : Nat) : Int) ∧ Φ k) c := fun p L S σ H n Q g hn q =>
  e_addI (ha S σ H _ g.sl fun v H1 s1 g1 => hb p L S σ H1 n _ (g.same s1) hn fun u d H2 b2 P2 g2 ⟨k, e2, f2⟩ => by
    cases g1
    subst e2
    cases g2
    exact ⟨i, k, rfl, rfl, q _ _ H2 ((But.of s1).trans b2) P2 (.int _) ⟨k, by rw [Int.natCast_add], f2⟩⟩)
theorem eg_ixL (ha : ED X ρ a (.list ds)) (hb : EG X ρ b (fun d => ∃ k : Nat, d = .int k ∧ k < ds.length) c) (hs : PlainIx b := by exact fun _ _ => rfl) : EG X ρ (.Subscript a b pos) (fun d => d ∈ ds) c := fun p L S σ H n Q g hn q =>
  e_ixL (ha S σ H _ g.sl fun v H1 s1 g1 => hb p L S σ H1 n _ (g.same s1) hn fun u d H2 b2 P2 g2 ⟨k, e2, hk⟩ => by
    subst e2
    cases g2
    obtain ⟨l, xs, rfl, _, hs, sq⟩ := ((g.same s1).dg b2 g1).seqL (K := X.K)
    have lt : k < xs.length := by rw [hs.length]; exact hk
    obtain ⟨d', e1, gd⟩ := hs.get (List.getElem?_eq_getElem lt)
    exact ⟨l, xs, k, xs[k], rfl, rfl, sq, atI_nat (List.getElem?_eq_getElem lt), q _ d' H2 ((But.of s1).trans b2) P2 gd (List.mem_of_getElem? e1)⟩) hs
theorem eg_ixT (ha : ED X ρ a (.tuple ds)) (hb : EG X ρ b (fun d => ∃ k : Nat, d = .int k ∧ k < ds.length) c) (hs : PlainIx b := by exact fun _ _ => rfl) : EG X ρ (.Subscript a b pos) (fun d => d ∈ ds) c := fun p L S σ H n Q g hn q =>
  e_ixT (ha S σ H _ g.sl fun v H1 s1 g1 => hb p L S σ H1 n _ (g.same s1) hn fun u d H2 b2 P2 g2 ⟨k, e2, hk⟩ => by
    subst e2
    cases g2
    obtain ⟨l, xs, rfl, _, hs, sq⟩ := ((g.same s1).dg b2 g1).seq (K := X.K)
    have lt : k < xs.length := by rw [hs.length]; exact hk
    obtain ⟨d', e1, gd⟩ := hs.get (List.getElem?_eq_getElem lt)
    exact ⟨l, xs, k, xs[k], rfl, rfl, sq, atI_nat (List.getElem?_eq_getElem lt), q _ d' H2 ((But.of s1).trans b2) P2 gd (List.mem_of_getElem? e1)⟩) hs
theorem cutD_take (xs : List PyData) (k : Nat) : cutD xs none (some (k : Int)) = xs.take k := by
  unfold cutD
  rw [HT.sIx_none, HT.sIx_nat, List.drop_zero, Nat.sub_zero]
  by_cases h : k ≤ xs.length
  · rw [Nat.min_eq_left h]
  · rw [Nat.min_eq_right (by omega), List.take_length, List.take_of_length_le (by omega)]
theorem eg_slTo {Φ : Nat → Prop} (ha : ED X ρ a (.tuple ds)) (hb : EG X ρ hi (fun d => ∃ k : Nat, d = .int k ∧ Φ k) c) : EG X ρ (.Subscript a (.Slice none (some hi) none p2) pos) (fun d => ∃ k : Nat, d = .tuple (ds.take k) ∧ Φ k) c := fun p L S σ H n Q g hn q =>
  toE (pe_slice sl_tupA pE po_none (po_some pE)) (ha S σ H _ g.sl fun v H1 s1 g1 => hb p L S σ H1 n _ (g.same s1) hn fun u d H2 b2 P2 g2 ⟨k, e2, f2⟩ => by
    subst e2
    cases g2
    refine ⟨k, rfl, slT_end (Same.refl H2) ((g.same s1).dg b2 g1) fun v H3 s3 g3 => ?_⟩
    rw [cutD_take] at g3
    exact q v _ H3 (((But.of s1).trans b2).trans (But.of s3)) (P2.same s3) g3 ⟨k, rfl, f2⟩)
theorem eg_tupL {Ψ : List PyData → Prop} (hm : X.mg "tuple" = none) (h : EG X ρ e (fun d => ∃ ds, d = .list ds ∧ Ψ ds) c) (hg : Gl X "tuple" := by rfl)
    (he : starEach [e] X.env = (false, eval e X.env) :: starEach [] X.env := by rfl) : EG X ρ (.Call (.Name "tuple" q1) [e] [] pos) (fun d => ∃ ds, d = .tuple ds ∧ Ψ ds) c := fun p L S σ H n Q g hn q =>
  e_tupL hm (h p L S σ H n _ g hn fun v d H1 b1 P1 g1 ⟨ds, e1, f1⟩ => by
    subst e1
    obtain ⟨l, xs, rfl, _, hs, sq⟩ := g1.seqL (K := X.K)
    exact ⟨l, xs, rfl, sq, fun t ht => q _ _ _ (b1.trans (But.of (same_new ht))) (P1.same (same_new ht)) (.tup upd_same (hs.same (same_new ht))) ⟨ds, rfl, f1⟩⟩) hg he rfl
theorem tg_eqI {j : Int} (h : EG X ρ a (fun d => ∃ k : Nat, d = .int k ∧ True) c) (hb : ED X ρ b (.int j)) (hm : behindInMarks .Eq b = false := by first | exact nomark _ | with_unfolding_all rfl) : TG X ρ (.Compare a [.Eq] [b] pos) c := fun p L S σ H n R g hn q =>
  t_eq (h p L S σ H n _ g hn fun v d H1 b1 P1 g1 ⟨k, e1, _⟩ => hb S σ H1 _ (g.but b1 P1).sl fun u H2 s2 g2 => by
    subst e1
    cases g1; cases g2
    exact ⟨rfl, q _ H2 (b1.trans (But.of s2)) (P1.same s2)⟩) hm
theorem eg_if {t : Expr} (ht : TG X ρ t c) (ha : EG X ρ a Φ c1) (hb : EG X ρ b Φ c2) (l1 : c1 ≤ c') (l2 : c2 ≤ c') : EG X ρ (.IfExp t a b pos) Φ (c + c') := fun p L S σ H n Q g hn q =>
  e_if (ht p L S σ H n _ g (by omega) fun k H1 b1 P1 => ⟨fun _ => ha p L S σ H1 (n + c) Q (g.but b1 P1) (by omega) fun v d H2 b2 P2 g2 f2 => q v d H2 (b1.trans b2) (P2.mono (by omega)) g2 f2, fun _ => hb p L S σ H1 (n + c) Q (g.but b1 P1) (by omega) fun v d H2 b2 P2 g2 f2 => q v d H2 (b1.trans b2) (P2.mono (by omega)) g2 f2⟩)
/-! calls of defs that draw: by their promise -/
def spGen (Pre : List PyData → Prop) (Φ : List PyData → PyData → Prop) (c : Nat) : Sp := fun vs H Q _ => ∃ p L n S ws ds, vs = .ref p :: ws ∧ S p ∧ (∀ a, S a → H a ≠ none) ∧ DGs S H ws ds ∧ Pen H p L n ∧ n + c < 2 ^ 39 ∧ Pre ds ∧
  ∀ v d H', But p H H' → Pen H' p L (n + c) → DG S H' v d → Φ ds d → Q v H'
theorem eg_call {kk j : Nat} {Pre : List PyData → Prop} {Φ : List PyData → PyData → Prop} (cF : CalN X.prog X.w X.K X.mg X.base kk y (spGen Pre Φ c)) (hr : Room j X.A) (hk : kk ≤ j) (h : AD X ρ es ds) (hp : Pre ds)
    (hN : X.N[0]? = some x := by rfl) (hv : Vis X.env.scope x := by first | exact Or.inl rfl | exact Or.inr (Or.inl rfl) | exact Or.inr (Or.inr rfl)) (hd : (x == ("__debug__" : Str)) = false := by decide) (hcd : (x == ("__classdict__" : Str)) = false := by decide)
    (hg : Gl X y := by rfl) (hdb : (y == ("__debug__" : Str)) = false := by decide) (s1 : starEach (.Name x q2 :: es) X.env = (false, eval (.Name x q2) X.env) :: starEach es X.env := by rfl) (hpl : (backTo pos (starEach es X.env)).any (·.1) = false := by rfl) :
    EG X ρ (.Call (.Name y q1) (.Name x q2 :: es) [] pos) (Φ ds) c := fun p L S σ H n Q g hn q =>
  e_c cF hr hk (a_cons (e_var 0 g.at0 (h S σ H _ g.sl fun vs H1 t1 g1 => by
    rw [List.append_nil]
    exact ⟨p, L, n, S, vs, ds, rfl, g.sp, in_same t1 g.sl.dom, g1, g.pen.same t1, hn, hp, fun v d H' b P' gd f => q v d H' ((But.of t1).trans b) P' gd f⟩) hN hv hd hcd) s1) hg hdb s1 hpl
/-! statements -/
theorem lg_ret (h : EG X ρ e Φ c) : LG X ρ (.Return (some e) pos :: l) Φ c := fun p L S σ H n D g hn q => l_cons (s_ret (h p L S σ H n _ g hn q))
theorem lg_set (i : Nat) (h : EG X ρ e Φ c1) (hs : ∀ d, Φ d → LG X (ρ.set i (some d)) l Ψ c2) (h0 : i ≠ 0) (hN : X.N.Nodup) (hi : X.N[i]? = some x := by rfl) (hx : Loc X.env.scope x := by first | exact Or.inl rfl | exact Or.inr rfl)
    (hsw : swapsWith e (some (.Name x q1)) pos.line X.env = pure false := by rfl) (hf : X.fn x = true ∨ X.env.scope.names.lookup x = some .local := by first | exact .inl rfl | exact .inr rfl | assumption) : LG X ρ (.Assign [.Name x q1] e pos :: l) Ψ (c1 + c2) := fun p L S σ H n D g hn q =>
  l_cons (s_set i (h p L S σ H n _ g (by omega) fun v d H1 b1 P1 g1 f1 => hs d f1 p L S _ H1 (n + c1) D ((g.but b1 P1).set h0 g1) (by omega) fun v d H2 b2 P2 g2 f2 => q v d H2 (b1.trans b2) (by rw [← Nat.add_assoc]; exact P2) g2 f2) hN hi hx hsw hf)
theorem lg_setD (i : Nat) (h : ED X ρ e d) (hs : LG X (ρ.set i (some d)) l Ψ c2) (h0 : i ≠ 0) (hN : X.N.Nodup) (hi : X.N[i]? = some x := by rfl) (hx : Loc X.env.scope x := by first | exact Or.inl rfl | exact Or.inr rfl)
    (hsw : swapsWith e (some (.Name x q1)) pos.line X.env = pure false := by rfl) (hf : X.fn x = true ∨ X.env.scope.names.lookup x = some .local := by first | exact .inl rfl | exact .inr rfl | assumption) : LG X ρ (.Assign [.Name x q1] e pos :: l) Ψ c2 :=
  (lg_set i (eg_of h) (fun z ez => by rw [ez]; exact hs) h0 hN hi hx hsw hf).mono (fun _ f => f) (by omega)
/-- a, b, c = a list of three -/
theorem lg_unp3L {x1 x2 x3 : Str} {r1 r2 r3 : Pos} {kt : Nat} {P3 : PyData → PyData → PyData → Prop} (i1 i2 i3 : Nat) (h : EG X ρ e (fun d => ∃ d1 d2 d3, d = .list [d1, d2, d3] ∧ P3 d1 d2 d3) c1)
    (hs : ∀ d1 d2 d3, P3 d1 d2 d3 → LG X (((ρ.set i1 (some d1)).set i2 (some d2)).set i3 (some d3)) l Ψ c2) (h1 : i1 ≠ 0) (h2 : i2 ≠ 0) (h3 : i3 ≠ 0)
    (hg : PG X (.Tuple [.Name x1 r1, .Name x2 r2, .Name x3 r3] kt pt) (gLst X.K 3 (gCons (gName i1) (gCons (gName i2) (gCons (gName i3) gNil)))))
    (hsw : swapsWithSole [.Tuple [.Name x1 r1, .Name x2 r2, .Name x3 r3] kt pt] e pos.line X.env = pure false := by rfl) (hw : swappedStores [.Tuple [.Name x1 r1, .Name x2 r2, .Name x3 r3] kt pt] e X.env = pure none := by rfl)
    (ha : (assignEach [.Tuple [.Name x1 r1, .Name x2 r2, .Name x3 r3] kt pt] X.env).map (·.2) = [assign (.Tuple [.Name x1 r1, .Name x2 r2, .Name x3 r3] kt pt) X.env] := by rfl) :
    LG X ρ (.Assign [.Tuple [.Name x1 r1, .Name x2 r2, .Name x3 r3] kt pt] e pos :: l) Ψ (c1 + c2) := fun p L S σ H n D g hn q =>
  l_cons (s_asg hg (h p L S σ H n _ g (by omega) fun v d H1 b1 P1 g1 ⟨d1, d2, d3, e1, f1⟩ => by
    subst e1
    obtain ⟨a, xs, rfl, ha', hs', sq⟩ := g1.seqL (K := X.K)
    cases hs' with
    | cons k1 r1 => cases r1 with
      | cons k2 r2 => cases r2 with
        | cons k3 r3 =>
          cases r3
          exact ⟨a, _, rfl, sq, rfl, _, _, rfl, _, _, rfl, _, _, rfl, rfl, hs d1 d2 d3 f1 p L S _ H1 (n + c1) D ((((g.but b1 P1).set h1 k1).set h2 k2).set h3 k3) (by omega) fun v d H2 b2 P2 g2 f2 => q v d H2 (b1.trans b2) (by rw [← Nat.add_assoc]; exact P2) g2 f2⟩) hsw hw ha)
/-! comprehensions over range that draw -/
section
variable {elt : Expr} {scope : Scope} {qr : Pos}
theorem lcG_core (j : Nat) {N : Nat} {Kq : Addr → Hp → Prop} {p L : Addr} {S : Addr → Prop} {σ : L2.St} {H : Hp} {n : Nat} {N0 : Nat → Prop} (h0 : j ≠ 0) (h : EG X ρ a (fun d => ∃ k : Nat, d = .int k ∧ k ≤ N ∧ N0 k) c1) (hN1 : N ≤ 1000) (hel : ∀ i < N, BGd X scope (ρ.set j (some (.int i))) elt Φ c2)
    (g : GS p L S H n σ ρ) (hn : n + (c1 + N * c2) < 2 ^ 39) (q : ∀ Dn ds H', But p H H' → Pen H' p L (n + (c1 + N * c2)) → DG S H' (.ref Dn) (.list ds) → (∀ d ∈ ds, Φ d) → ds.length ≤ N → N0 ds.length → Kq Dn H') :
    WE X a σ H fun v H1 => ∃ k : Nat, v = .int k ∧ k < 2 ^ 62 ∧ ∀ Dn, H1 Dn = none → ∃ Pv : Nat → Hp → Prop, Pv 0 (upd H1 Dn (.lst [])) ∧
      (∀ i H, i < k → Pv i H → WB X scope elt ((wipe σ [j]).set j (some (.int i))) H fun z H4 => ∃ acc, H4 Dn = some (.lst acc) ∧ acc.length < sizeLine ∧ Pv (i + 1) (upd H4 Dn (.lst (acc ++ [z])))) ∧
      ∀ H, Pv k H → Kq Dn H := by
  refine h p L S σ H n _ g (by omega) fun v d H1 b1 P1 g1 ⟨k, e1, hk, f1⟩ => ?_
  subst e1
  cases g1
  refine ⟨k, rfl, by omega, fun Dn nD => ?_⟩
  have g1 := g.but b1 P1
  have nDp : Dn ≠ p := P1.newP nD
  have nDL : Dn ≠ L := P1.newL nD
  have slD := g1.sl.and1 (o := .lst []) nD
  refine ⟨fun i H' => ∃ ys ds, (∀ b o, b ≠ p → b ≠ Dn → H1 b = some o → H' b = some o) ∧ Pen H' p L (n + c1 + i * c2) ∧ H' Dn = some (.lst ys) ∧ ys.length = i ∧ DGs (And1 S Dn) H' ys ds ∧ ∀ d ∈ ds, Φ d, ?_, ?_, ?_⟩
  · exact ⟨[], [], fun b o _ nb e => by rw [upd_ne nb]; exact e, by rw [Nat.zero_mul]; exact P1.same (same_new nD), upd_same, rfl, .nil, fun d hd => by cases hd⟩
  · rintro i H' hi ⟨ys, ds, k1, k2, k3, k4, k5, k6⟩ s0 H00 C cl fp
    have tup : Tup (upd H1 Dn (.lst [])) H' := fun b xs e => by
      have nb : b ≠ Dn := fun z => by rw [z, upd_same] at e; cases e
      rw [upd_ne nb] at e
      obtain ⟨zs, hp⟩ := P1.p
      exact k1 b _ (ne_of e hp (fun z => by cases z)) nb e
    have gD : GS p L (And1 S Dn) H' (n + c1 + i * c2) ((wipe σ [j]).set j (some (.int i))) (ρ.set j (some (.int i))) := by
      refine ⟨?_, .inl g1.sp, k2, ?_⟩
      · have s2 : SL (And1 S Dn) H' σ ρ := slD.keep tup (fun a o na e => by
          have nb : a ≠ Dn := fun z => na (.inr z)
          have np : a ≠ p := fun z => na (.inl (z ▸ g1.sp))
          rw [upd_ne nb] at e
          exact k1 a o np nb e) (fun a ha => by
            rcases ha with ha | ha
            · by_cases e : a = p
              · obtain ⟨xs, hp⟩ := k2.p
                rw [e, hp]; exact fun z => by cases z
              · have nb : a ≠ Dn := fun z => g1.sl.dom a ha (by rw [z]; exact nD)
                cases q : H1 a with
                | none => exact absurd q (g1.sl.dom a ha)
                | some o => rw [k1 a o e nb q]; exact fun z => by cases z
            · rw [ha, k3]; exact fun z => by cases z)
        have s3 := (s2.wipe (i := j)).set (i := j) (d := .int i) (v := .int i) (.int _)
        have e1 : (ρ.set j none).set j (some (PyData.int i)) = ρ.set j (some (.int i)) := List.set_set ..
        rw [e1] at s3
        exact s3
      · show (((σ.set j none).set j (some (.int i))) : L2.St)[0]? = _
        rw [List.getElem?_set_ne h0, List.getElem?_set_ne h0]
        exact g1.at0
    have hb : i * c2 + c2 ≤ N * c2 := by
      have : (i + 1) * c2 ≤ N * c2 := Nat.mul_le_mul_right c2 (by omega)
      rw [Nat.add_mul, Nat.one_mul] at this
      exact this
    refine hel i (by omega) s0 H00 C cl fp p L (And1 S Dn) _ H' (n + c1 + i * c2) _ gD (by omega) fun z d H4 b4 P4 g4 f4 => ?_
    have h4 : H4 Dn = some (.lst ys) := b4 _ _ nDp k3
    refine ⟨ys, h4, by rw [k4]; exact Nat.lt_of_lt_of_le (show i < 1001 by omega) (by decide), ys ++ [z], ds ++ [d], fun b o np nb e => ?_, ?_, upd_same, by rw [List.length_append, k4]; rfl, ?_, ?_⟩
    · rw [upd_ne nb]; exact b4 b o np (k1 b o np nb e)
    · have P5 : Pen H4 p L (n + c1 + (i + 1) * c2) := P4.mono (by rw [Nat.add_mul, Nat.one_mul]; omega)
      exact P5.upd nDp nDL
    · exact (((gD.dgs b4 k5)).append (.cons g4 .nil)).put h4
    · intro y hy
      rcases List.mem_append.mp hy with hy | hy
      · exact k6 y hy
      · rw [List.mem_singleton.mp hy]; exact f4
  · rintro H' ⟨ys, ds, k1, k2, k3, k4, k5, k6⟩
    have hb : k * c2 ≤ N * c2 := Nat.mul_le_mul_right c2 hk
    have eL : ds.length = k := by rw [← k5.length, k4]
    refine q Dn ds H' (b1.trans fun b o np e => k1 b o np (ne_of_none e nD) e) (k2.mono (by omega)) (.lst k3 (fun z => g1.sl.dom Dn z nD) k5.un1) k6 (by omega) (by rw [eL]; exact f1)
theorem eg_lcR (j : Nat) {N : Nat} {N0 : Nat → Prop} (h0 : j ≠ 0) (hm : X.mg "range" = none) (hN : X.N.Nodup) (okb : BlkOk X.N X.env.scope scope [(x, j)]) (h : EG X ρ a (fun d => ∃ k : Nat, d = .int k ∧ k ≤ N ∧ N0 k) c1) (hN1 : N ≤ 1000) (hel : ∀ i < N, BGd X scope (ρ.set j (some (.int i))) elt Φ c2)
    (hg : ∀ (s : Shared) (H : Hp) (C : Addr) (cl : List (Str × Addr)) (fp : List Addr), PG (X.blk s H scope (compEnvC scope cl C X.env) fp) (.Name x pt) (gName j))
    (hgl : Gl X "range" := by rfl) (hst : starEach [a] X.env = [(false, eval a X.env)] := by rfl) (hc : X.calm = true := by rfl) (hs : ∀ z, foldedSetIterable (.Call (.Name "range" qr) [a] [] pc) X.env z = pure z := by intro _; rfl) :
    EG X ρ (.ListComp elt [⟨.Name x pt, .Call (.Name "range" qr) [a] [] pc, [], 0⟩] scope pos) (fun d => ∃ ds, d = .list ds ∧ (∀ d ∈ ds, Φ d) ∧ ds.length ≤ N ∧ N0 ds.length) (c1 + N * c2) := fun p L S σ H n Q g hn q =>
  e_lcR j hm hN okb (lcG_core j (Kq := fun Dn H' => Q (.ref Dn) H') h0 h hN1 hel g hn fun Dn ds H' b P' gd f l1 l2 => q _ _ H' b P' gd ⟨ds, rfl, f, l1, l2⟩) hg hgl hst hc hs
/-- y = [.. for x in range(..)] -/
theorem lg_lcR (i j : Nat) {N : Nat} {N0 : Nat → Prop} (hi0 : i ≠ 0) (h0 : j ≠ 0) (hm : X.mg "range" = none) (hN : X.N.Nodup) (okb : BlkOk X.N X.env.scope scope [(x, j)]) (h : EG X ρ a (fun d => ∃ k : Nat, d = .int k ∧ k ≤ N ∧ N0 k) c1) (hN1 : N ≤ 1000) (hel : ∀ i < N, BGd X scope (ρ.set j (some (.int i))) elt Φ c2)
    {py spos : Pos} {c3 : Nat} (hl : ∀ ds, (∀ d ∈ ds, Φ d) → ds.length ≤ N → N0 ds.length → LG X (ρ.set i (some (.list ds))) l Ψ c3)
    (hg : ∀ (s : Shared) (H : Hp) (C : Addr) (cl : List (Str × Addr)) (fp : List Addr), PG (X.blk s H scope (compEnvC scope cl C X.env) fp) (.Name x pt) (gName j))
    (hsw : swapsWith (.ListComp elt [⟨.Name x pt, .Call (.Name "range" qr) [a] [] pc, [], 0⟩] scope pos) (some (.Name y py)) spos.line X.env = pure true)
    (hy : X.N[i]? = some y := by rfl) (hyl : X.env.scope.names.lookup y = some .local := by rfl)
    (hgl : Gl X "range" := by rfl) (hst : starEach [a] X.env = [(false, eval a X.env)] := by rfl) (hc : X.calm = true := by rfl) (hs : ∀ z, foldedSetIterable (.Call (.Name "range" qr) [a] [] pc) X.env z = pure z := by intro _; rfl) :
    LG X ρ (.Assign [.Name y py] (.ListComp elt [⟨.Name x pt, .Call (.Name "range" qr) [a] [] pc, [], 0⟩] scope pos) spos :: l) Ψ (c1 + N * c2 + c3) := fun p L S σ H n D g hn q =>
  l_cons (s_lcR i j hm hN okb (lcG_core j (Kq := fun Dn H' => WL X l D (σ.set i (some (.ref Dn))) H') h0 h hN1 hel g (by omega) fun Dn ds H' b P' gd f l1 l2 =>
    hl ds f l1 l2 p L S _ H' (n + (c1 + N * c2)) D ((g.but b P').set hi0 gd) (by omega) fun v d H2 b2 P2 g2 f2 => q v d H2 (b.trans b2) (P2.mono (by omega)) g2 f2) hg hsw hy hyl hgl hst hc hs)
end
end
/-! the same, with what is left of the draws -/
section
variable {X : Cx} {ρ : Rho} {a e : Expr} {d : PyData} {Φ Ψ : PyData → Prop} {c c1 c2 : Nat} {pos q1 pt pc : Pos} {x y : Str} {l : List Stmt}
theorem lg_retB (h : EG X ρ e Φ c1) (hc : c1 ≤ c := by decide) : LG X ρ (.Return (some e) pos :: l) Φ c := (lg_ret h).mono (fun _ f => f) hc
theorem lg_setB (i : Nat) (h : EG X ρ e Φ c1) (hs : ∀ d, Φ d → LG X (ρ.set i (some d)) l Ψ (c - c1)) (h0 : i ≠ 0) (hN : X.N.Nodup) (hc : c1 ≤ c := by decide) (hi : X.N[i]? = some x := by rfl) (hx : Loc X.env.scope x := by first | exact Or.inl rfl | exact Or.inr rfl)
    (hsw : swapsWith e (some (.Name x q1)) pos.line X.env = pure false := by rfl) (hf : X.fn x = true ∨ X.env.scope.names.lookup x = some .local := by first | exact .inl rfl | exact .inr rfl | assumption) : LG X ρ (.Assign [.Name x q1] e pos :: l) Ψ c :=
  (lg_set i h hs h0 hN hi hx hsw hf).mono (fun _ f => f) (by omega)
theorem lg_unp3B {x1 x2 x3 : Str} {r1 r2 r3 : Pos} {kt : Nat} {P3 : PyData → PyData → PyData → Prop} (i1 i2 i3 : Nat) (h : EG X ρ e (fun d => ∃ d1 d2 d3, d = .list [d1, d2, d3] ∧ P3 d1 d2 d3) c1)
    (hs : ∀ d1 d2 d3, P3 d1 d2 d3 → LG X (((ρ.set i1 (some d1)).set i2 (some d2)).set i3 (some d3)) l Ψ (c - c1)) (h1 : i1 ≠ 0) (h2 : i2 ≠ 0) (h3 : i3 ≠ 0)
    (hg : PG X (.Tuple [.Name x1 r1, .Name x2 r2, .Name x3 r3] kt pt) (gLst X.K 3 (gCons (gName i1) (gCons (gName i2) (gCons (gName i3) gNil))))) (hc : c1 ≤ c := by decide)
    (hsw : swapsWithSole [.Tuple [.Name x1 r1, .Name x2 r2, .Name x3 r3] kt pt] e pos.line X.env = pure false := by rfl) (hw : swappedStores [.Tuple [.Name x1 r1, .Name x2 r2, .Name x3 r3] kt pt] e X.env = pure none := by rfl)
    (ha : (assignEach [.Tuple [.Name x1 r1, .Name x2 r2, .Name x3 r3] kt pt] X.env).map (·.2) = [assign (.Tuple [.Name x1 r1, .Name x2 r2, .Name x3 r3] kt pt) X.env] := by rfl) :
    LG X ρ (.Assign [.Tuple [.Name x1 r1, .Name x2 r2, .Name x3 r3] kt pt] e pos :: l) Ψ c :=
  (lg_unp3L i1 i2 i3 h hs h1 h2 h3 hg hsw hw ha).mono (fun _ f => f) (by omega)
theorem lg_lcRB {elt : Expr} {scope : Scope} {qr : Pos} (i j : Nat) {N : Nat} {N0 : Nat → Prop} (hi0 : i ≠ 0) (h0 : j ≠ 0) (hm : X.mg "range" = none) (hN : X.N.Nodup) (okb : BlkOk X.N X.env.scope scope [(x, j)]) (h : EG X ρ a (fun d => ∃ k : Nat, d = .int k ∧ k ≤ N ∧ N0 k) c1) (hN1 : N ≤ 1000) (hel : ∀ i < N, BGd X scope (ρ.set j (some (.int i))) elt Φ c2)
    {py spos : Pos} (hl : ∀ ds, (∀ d ∈ ds, Φ d) → ds.length ≤ N → N0 ds.length → LG X (ρ.set i (some (.list ds))) l Ψ (c - (c1 + N * c2)))
    (hg : ∀ (s : Shared) (H : Hp) (C : Addr) (cl : List (Str × Addr)) (fp : List Addr), PG (X.blk s H scope (compEnvC scope cl C X.env) fp) (.Name x pt) (gName j))
    (hsw : swapsWith (.ListComp elt [⟨.Name x pt, .Call (.Name "range" qr) [a] [] pc, [], 0⟩] scope pos) (some (.Name y py)) spos.line X.env = pure true) (hc0 : c1 + N * c2 ≤ c := by decide)
    (hy : X.N[i]? = some y := by rfl) (hyl : X.env.scope.names.lookup y = some .local := by rfl)
    (hgl : Gl X "range" := by rfl) (hst : starEach [a] X.env = [(false, eval a X.env)] := by rfl) (hc : X.calm = true := by rfl) (hs : ∀ z, foldedSetIterable (.Call (.Name "range" qr) [a] [] pc) X.env z = pure z := by intro _; rfl) :
    LG X ρ (.Assign [.Name y py] (.ListComp elt [⟨.Name x pt, .Call (.Name "range" qr) [a] [] pc, [], 0⟩] scope pos) spos :: l) Ψ c :=
  (lg_lcR i j hi0 h0 hm hN okb h hN1 hel hl hg hsw hy hyl hgl hst hc hs).mono (fun _ f => f) (by omega)
end
/-! defs that draw -/
def startG (N : List Str) (ds : List PyData) : Rho := none :: ds.map some ++ List.replicate (N.length - (ds.length + 1)) none
theorem Fun.okGen {P : Program} {w : World} {K : PySem.W.Frag} {mg : Str → Option Value} {base : Heap} {x qual : Str} {st : Stmt} {f : Addr} {fd : FuncData} {N ps : List Str} {k : Nat} {Pre : List PyData → Prop} {Φ : List PyData → PyData → Prop} {c : Nat} (F : Fun K x qual st f fd) (S : FnScope N ps (defScope st))
    (len : ∀ ds, Pre ds → ds.length + 1 = ps.length)
    (body : ∀ (cdv : Value) (B : Around) (out : List Env) (s : Shared) (H : Hp) (E : XK) (ds : List PyData), Room k (B.deeper (envOfC qual (defScope st) s.heap.objs.size f cdv)) → Pre ds →
      LG (cxOf CX0 P w K mg base N qual (defScope st) f cdv B out s H E).nox (startG N ds) (defBody st) (Φ ds) c) : FnOk P w K mg base CX0 (k + 1) f fd ps (spGen Pre Φ c) :=
  Fun.okW F S (fun vs H Q E ⟨p, L, n, S0, ws, ds, e, _, _, g, _, _, hp, _⟩ => by rw [e, List.length_cons, g.length]; exact len ds hp) fun cdv B out s H vs Q E hr ⟨p, L, n, S0, ws, ds, e, sp, dom, g, P1, hn, hp, q⟩ => by
    subst e
    refine body cdv B out s H E ds hr hp p L S0 _ H n _ ⟨⟨dom, fun i d qd => ?_, ?_⟩, sp, P1, ?_⟩ hn q
    · have lw := g.length
      unfold startG at qd
      cases i with
      | zero => cases qd
      | succ i =>
        have qd' : (ds.map some ++ List.replicate (N.length - (ds.length + 1)) (none : Option PyData))[i]? = some (some d) := qd
        by_cases lt : i < ds.length
        · rw [List.getElem?_append_left (by rw [List.length_map]; exact lt), List.getElem?_map] at qd'
          have lv : i < ws.length := by omega
          obtain ⟨d', e1, e2⟩ := g.get (List.getElem?_eq_getElem lv)
          rw [e1] at qd'
          cases qd'
          refine ⟨ws[i], ?_, e2⟩
          show ((V.ref p :: ws).map some ++ List.replicate (N.length - (ws.length + 1)) none : L2.St)[i + 1]? = _
          rw [List.getElem?_append_left (by rw [List.length_map, List.length_cons]; omega), List.getElem?_map, List.getElem?_cons_succ, List.getElem?_eq_getElem lv]
          rfl
        · rw [List.getElem?_append_right (by rw [List.length_map]; omega), List.getElem?_replicate] at qd'
          split at qd' <;> cases qd'
    · have lw := g.length
      unfold L2.start startG
      simp only [List.length_append, List.length_map, List.length_cons, List.length_replicate]
      omega
    · rfl
end My

namespace K86
open PySem PySem.Spec PyProof.Rows L2 My
def top (i : Nat) : Stmt := PySem.Challenge.pw_boundonce_k86_texts_of_entries.main.body.getD i (.Pass ⟨0, 0, 0, 0⟩)
abbrev sPen : Stmt := top 16
abbrev sNext : Stmt := top 17
abbrev sDraw : Stmt := top 18
section
variable {P : Program} {w : World} {K : PySem.W.Frag} {mg : Str → Option Value} {base : Heap} {f fd : _}
theorem scPen : FnScope ["_law_script"] ["_law_script"] (defScope sPen) := ⟨rfl, rfl, rfl, by decide +kernel, rfl, by decide +kernel, by decide +kernel⟩
theorem ok_pen {f : Addr} {fd : FuncData} (F : Fun K "_law_pen" "_law_pen" sPen f fd) (G : Bl mg) : FnOk P w K mg base CX0 1 f fd ["_law_script"] (spPen K) := by
  refine Fun.okW F scPen (fun vs H Q E h => by obtain ⟨a, ns, rfl, _⟩ := h; rfl) (fun cdv B out s H vs Q E hr h => ?_)
  obtain ⟨a, ns, rfl, hS, hl, q⟩ := h
  obtain ⟨ms, em, lm⟩ := cut_len ns 60
  refine l_one (s_ret (e_lst (a_cons (e_callT call_list_of G.list PyProof.Rows.boot_list (a_cons (e_slL (e_var 0 rfl (e_int ⟨60, a, _, rfl, rfl, hS, fun c hc => ?_⟩))))))))
  refine a_nil ⟨c, _, rfl, .inl (.inl (.inl upd_same)), fun L hL => ?_⟩
  refine a_cons (e_int (a_cons (e_int (a_nil ⟨by show 3 ≤ sizeLine; decide, fun p hp => ?_⟩))))
  refine q p L _ ((same_new hc).trans ((same_new hL).trans (same_new hp))) ((same_new hc).free ((same_new hL).free hp)) ((same_new hc).free hL) ?_
  exact ⟨ms, 0, 0, upd_same, by rw [upd_ne (ne_of_none upd_same hp), upd_same, em], by omega, by decide, by decide, ne_of_none upd_same hp⟩
theorem scNext : FnScope ["_law_pen_here", "_law_index", "_law_cell_here", "_law_some_here", "_law_more", "_law_top"] ["_law_pen_here"] (defScope sNext) := ⟨rfl, rfl, rfl, by decide +kernel, rfl, by decide +kernel, by decide +kernel⟩
theorem at0 {α : Type} (a b c : α) : atI [a, b, c] 0 = some a := rfl
theorem at1 {α : Type} (a b c : α) : atI [a, b, c] 1 = some b := rfl
theorem at2 {α : Type} (a b c : α) : atI [a, b, c] 2 = some c := rfl
theorem dp_int {H : Hp} : ∀ ns : List Int, DpAll K H (ns.map V.int) (ns.map PyData.int)
  | [] => .nil
  | n :: ns => .cons (.int n) (dp_int ns)
theorem shaped_ints : ∀ ns : List Int, SeqAt.shaped (.list (ns.map PyData.int)) = true := fun ns => by
  have h1 : ∀ ms : List Int, PyData.canLayAll0 (ms.map PyData.int) = true := fun ms => by
    induction ms with
    | nil => rfl
    | cons m ms ih => show (true && PyData.canLayAll0 (ms.map PyData.int)) = true; rw [ih]; rfl
  have h2 : ∀ ms : List Int, PyData.depthAll (ms.map PyData.int) = 0 := fun ms => by
    induction ms with
    | nil => rfl
    | cons m ms ih => show max 0 (PyData.depthAll (ms.map PyData.int)) = 0; rw [ih]; rfl
  show (PyData.canLayAll0 (ns.map PyData.int) && decide (PyData.depthAll (ns.map PyData.int) + 1 ≤ 64)) = true
  rw [h1, h2]
  rfl
theorem ok_next {f : Addr} {fd : FuncData} (F : Fun K "_law_next" "_law_next" sNext f fd) (G : Bl mg) : FnOk P w K mg base CX0 1 f fd ["_law_pen_here"] spNext := by
  refine Fun.okW F scNext (fun vs H Q E h => by obtain ⟨a, b, n, rfl, _⟩ := h; rfl) (fun cdv B out s H vs Q E hr h => ?_)
  obtain ⟨p, L, n, rfl, ⟨ns, i, r, h1, h2, h3, h4, h5, h6⟩, hn, q⟩ := h
  -- index = pen[1]; pen[1] = index + 1
  refine l_cons (s_set 1 (e_ixL (e_var 0 rfl (e_int ⟨p, _, 1, _, rfl, rfl, .inl (.inl h1), at1 _ _ _, ?_⟩))) scNext.nd)
  refine l_cons (s_setL (e_addI (e_var 1 rfl (e_int ⟨i, 1, rfl, rfl, e_var 0 rfl (e_int ⟨p, _, 1, 1, rfl, rfl, h1, rfl, ?_⟩)⟩))))
  -- cell = index * 1087 + 73
  refine l_cons (s_set 2 (e_addI (e_mulI (e_var 1 rfl (e_int ⟨i, 1087, rfl, rfl, .inr (by decide), e_int ⟨_, 73, rfl, rfl, ?_⟩⟩)))) scNext.nd)
  have g1 : (upd H p (.lst [.ref L, .int (i + 1), .int r])) p = some (.lst [.ref L, .int (i + 1), .int r]) := upd_same
  have g2 : (upd H p (.lst [.ref L, .int (i + 1), .int r])) L = some (.lst (ns.map V.int)) := by rw [upd_ne h6]; exact h2
  have hb : But p H (upd H p (.lst [.ref L, .int (i + 1), .int r])) := But.upd
  show WL _ _ _ [some (.ref p), some (.int i), some (.int (i * 1087 + 73)), none, none, none] (upd H p (.lst [.ref L, .int (i + 1), .int r]))
  generalize i * 1087 + 73 = cell0
  generalize (upd H p (.lst [.ref L, .int (i + 1), .int r])) = H1 at g1 g2 hb
  have hi64 : -(2 ^ 64) < i ∧ i < 2 ^ 64 := ⟨by omega, by omega⟩
  -- if pen[0] != []: cell = pen[0][int(index) % len(pen[0])]
  refine l_cons (WS.cut (P := fun σ H2 => ∃ cell : Int, σ = [some (.ref p), some (.int i), some (.int cell), none, none, none] ∧ Same H1 H2) (s_if (t_neD hr.units (e_ixL (e_var 0 rfl (e_int ⟨p, _, 0, _, rfl, rfl, .inl (.inl g1), at0 _ _ _, e_lst (a_nil ⟨Nat.zero_le _, fun c hc => ?_⟩)⟩))))) ?_)
  · have s1 : Same H1 (upd H1 c (.lst [])) := same_new hc
    refine ⟨.list (ns.map PyData.int), .list [], .lst (.inl (.inl (s1 _ _ g2))) (dp_int ns), .lst (.inl (.inl upd_same)) .nil, shaped_ints ns, rfl, fun e => ?_, fun _ => l_nil ⟨cell0, rfl, s1⟩⟩
    have hpos : 0 < ns.length := by
      cases ns with
      | nil => cases e
      | cons x xs => exact Nat.succ_pos _
    refine l_one (s_set 2 (e_ixL (e_ixL (e_var 0 rfl (e_int ⟨p, _, 0, _, rfl, rfl, .inl (.inl (s1 _ _ g1)), at0 _ _ _, e_modI (e_intI G.int (e_var 1 rfl (.inl ⟨i, rfl, e_len G.len (e_ixL (e_var 0 rfl (e_int ⟨p, _, 0, _, rfl, rfl, .inl (.inl (s1 _ _ g1)), at0 _ _ _, L, _, rfl, .inl (.inl (.inl (s1 _ _ g2))), i, _, rfl, rfl, ?_, ?_⟩)))⟩)))⟩)))) scNext.nd)
    · rw [List.length_map]
      omega
    · have e1 : i % ((ns.map V.int).length : Int) = ((i % (ns.length : Int)).toNat : Nat) := by
        rw [List.length_map]
        have := Int.emod_nonneg i (show (ns.length : Int) ≠ 0 by omega)
        omega
      have e2 : (i % (ns.length : Int)).toNat < ns.length := by
        have := Int.emod_lt_of_pos i (show (0 : Int) < (ns.length : Int) by omega)
        have := Int.emod_nonneg i (show (ns.length : Int) ≠ 0 by omega)
        omega
      refine ⟨L, ns.map V.int, _, .int (ns[(i % (ns.length : Int)).toNat]), rfl, rfl, .inl (.inl (s1 _ _ g2)), ?_, ⟨_, rfl, s1⟩⟩
      rw [e1]
      exact atI_nat (by rw [List.getElem?_map, List.getElem?_eq_getElem e2]; rfl)
  rintro σ H2 ⟨cell, rfl, s2⟩
  have k1 := s2 _ _ g1
  have k2 := s2 _ _ g2
  have fin : ∀ (z : Int) H3, Same H2 H3 → Q (.int z) H3 := fun z H3 s3 => q z H3 (hb.trans (But.of (s2.trans s3))) ⟨ns, i + 1, r, s3 _ _ k1, s3 _ _ k2, h3, by omega, by omega, h6⟩
  -- if index < len(pen[0]) and cell >= 10 ** 18: return cell
  refine l_cons (WS.cut (P := fun σ H3 => σ = [some (.ref p), some (.int i), some (.int cell), none, none, none] ∧ H3 = H2) (s_if (t_w (w_and (t_lt (e_var 1 rfl (e_len G.len (e_ixL (e_var 0 rfl (e_int ⟨p, _, 0, _, rfl, rfl, .inl (.inl k1), at0 _ _ _, L, _, rfl, .inl (.inl (.inl k2)), i, _, rfl, rfl, fun _ => w_and1 (t_ge (e_var 2 rfl (e_op op_pow (e_int (e_int ⟨10, 18, rfl, rfl, ⟨by decide, by decide, by decide⟩, cell, _, rfl, rfl, ?_⟩))))), fun _ => ?_⟩))))))))) ?_)
  case refine_2 => exact ⟨fun e => Bool.noConfusion e, fun _ => l_nil ⟨rfl, rfl⟩⟩
  case refine_1 => exact ⟨fun _ => l_one (s_ret (e_var 2 rfl (fin _ _ (Same.refl _)))), fun _ => l_nil ⟨rfl, rfl⟩⟩
  rintro σ H3 ⟨rfl, rfl⟩
  refine l_cons (s_set 3 (e_modI (e_intI G.int (e_addI (e_addI (e_modI (e_intI G.int (e_var 2 rfl (.inl ⟨cell, rfl, e_int ⟨_, 2147483587, rfl, rfl, by decide, e_mulI (e_var 1 rfl (e_int ⟨i, 30133, rfl, rfl, .inr (by decide), _, _, rfl, rfl, e_int ⟨_, 101, rfl, rfl, .inl ⟨_, rfl, e_int ⟨_, 2147483587, rfl, rfl, by decide, ?_⟩⟩⟩⟩))⟩⟩)))))))) scNext.nd)
  generalize hx : (cell % 2147483587 + i * 30133 + 101) % 2147483587 = x
  have x0 : 0 ≤ x := by rw [← hx]; exact Int.emod_nonneg _ (by decide)
  have x1 : x < 2147483587 := by rw [← hx]; exact Int.emod_lt_of_pos _ (by decide)
  refine l_cons (s_set 4 (e_modI (e_intI G.int (e_addI (e_addI (e_mulI (e_var 3 rfl (e_var 3 rfl ⟨x, x, rfl, rfl, .inl ⟨by omega, by omega⟩, e_mulI (e_var 1 rfl (e_int ⟨i, 70111, rfl, rfl, .inr (by decide), _, _, rfl, rfl, e_int ⟨_, 73, rfl, rfl, .inl ⟨_, rfl, e_int ⟨_, 2147483563, rfl, rfl, by decide, ?_⟩⟩⟩⟩))⟩))))))) scNext.nd)
  generalize hy : (x * x + i * 70111 + 73) % 2147483563 = y
  have y0 : 0 ≤ y := by rw [← hy]; exact Int.emod_nonneg _ (by decide)
  have y1 : y < 2147483563 := by rw [← hy]; exact Int.emod_lt_of_pos _ (by decide)
  refine l_cons (s_set 5 (e_modI (e_intI G.int (e_addI (e_addI (e_mulI (e_var 4 rfl (e_var 4 rfl ⟨y, y, rfl, rfl, .inl ⟨by omega, by omega⟩, e_var 3 rfl ⟨_, x, rfl, rfl, e_mulI (e_mulI (e_var 1 rfl (e_var 1 rfl ⟨i, i, rfl, rfl, .inl hi64, e_int ⟨_, 47, rfl, rfl, .inr (by decide), _, _, rfl, rfl, .inl ⟨_, rfl, e_int ⟨_, 2147483549, rfl, rfl, by decide, ?_⟩⟩⟩⟩)))⟩⟩))))))) scNext.nd)
  generalize hz : (y * y + x + i * i * 47) % 2147483549 = z
  refine l_one (s_ret (e_addI (e_mulI (e_addI (e_mulI (e_var 5 rfl (e_int ⟨z, 2147483587, rfl, rfl, .inr (by decide), e_var 4 rfl ⟨_, y, rfl, rfl, e_int ⟨_, 2147483563, rfl, rfl, .inr (by decide), e_var 3 rfl ⟨_, x, rfl, rfl, ?_⟩⟩⟩⟩)))))))
  exact fin _ _ (Same.refl _)
theorem scDraw : FnScope ["_law_pen_here", "_law_under", "_law_digit"] ["_law_pen_here", "_law_under"] (defScope sDraw) := ⟨rfl, rfl, rfl, by decide +kernel, rfl, by decide +kernel, by decide +kernel⟩
theorem ok_draw {f : Addr} {fd : FuncData} (F : Fun K "_law_draw" "_law_draw" sDraw f fd) (G : Bl mg) (N : CalN P w K mg base 1 "_law_next" spNext) : FnOk P w K mg base CX0 2 f fd ["_law_pen_here", "_law_under"] spDraw := by
  refine Fun.okW F scDraw (fun vs H Q E h => by obtain ⟨a, b, n, u, rfl, _⟩ := h; rfl) (fun cdv B out s H vs Q E hr h => ?_)
  obtain ⟨p, L, n, u, rfl, Pn, hn, u0, u1, q⟩ := h
  obtain ⟨ns, i, r, h1, h2, h3, h4, h5, h6⟩ := id Pn
  -- if pen[2] < under: pen[2] = next(pen)
  refine l_cons (WS.cut (P := fun σ H2 => σ = [some (.ref p), some (.int u), none] ∧ Pen H2 p L (n + 1) ∧ But p H H2) (s_if (t_lt (e_ixL (e_var 0 rfl (e_int ⟨p, _, 2, _, rfl, rfl, .inl (.inl h1), at2 _ _ _, e_var 1 rfl ⟨r, u, rfl, rfl, fun _ => ?_, fun _ => l_nil ⟨rfl, Pn.mono (Nat.le_succ _), But.refl _ _⟩⟩⟩))))) ?_)
  · refine l_one (s_setL (e_c N hr (by decide) (a_cons (e_var 0 rfl (a_nil ⟨p, L, n, rfl, Pn, hn, fun z H2 b2 P2 => ?_⟩)))))
    obtain ⟨ns', i', r', g1, g2, g3, g4, g5, g6⟩ := P2
    refine e_var 0 rfl (e_int ⟨p, _, 2, 2, rfl, rfl, g1, rfl, rfl, ⟨ns', i', z, upd_same, by rw [upd_ne g6]; exact g2, g3, g4, g5, g6⟩, b2.trans But.upd⟩)
  rintro σ H2 ⟨rfl, P2, b2⟩
  obtain ⟨ns', i', r', g1, g2, g3, g4, g5, g6⟩ := P2
  refine l_cons (s_set 2 (e_modI (e_intI G.int (e_ixL (e_var 0 rfl (e_int ⟨p, _, 2, _, rfl, rfl, .inl (.inl g1), at2 _ _ _, .inl ⟨r', rfl, e_var 1 rfl ⟨r', u, rfl, rfl, u0, ?_⟩⟩⟩))))) scDraw.nd)
  refine l_cons (s_setL (e_divI (e_ixL (e_var 0 rfl (e_int ⟨p, _, 2, _, rfl, rfl, .inl (.inl g1), at2 _ _ _, e_var 1 rfl ⟨r', u, rfl, rfl, ⟨u0, u1⟩, e_var 0 rfl (e_int ⟨p, _, 2, 2, rfl, rfl, g1, rfl, ?_⟩)⟩⟩)))))
  have e0 := Int.emod_nonneg r' (show u ≠ 0 by omega)
  have e1 := Int.emod_lt_of_pos r' u0
  refine l_one (s_ret (e_var 2 rfl ?_))
  have en : r' % u = ((r' % u).toNat : Nat) := by omega
  show Q (.int (r' % u)) _
  rw [en]
  exact q _ _ (b2.trans But.upd) ⟨ns', i', r' / u, upd_same, by rw [upd_ne g6]; exact g2, g3, g4, g5, g6⟩ (by omega)
end
end K86

namespace K86
open PySem PySem.Spec PyProof.Rows L2 My
abbrev sSome : Stmt := top 19
abbrev sWorths : Stmt := top 20
theorem erase_map : ∀ (ws : List Str) (k : Nat), (ws.map V.str).eraseIdx k = (ws.eraseIdx k).map V.str
  | [], _ => rfl
  | _ :: _, 0 => rfl
  | w :: ws, k + 1 => by show V.str w :: (ws.map V.str).eraseIdx k = V.str w :: (ws.eraseIdx k).map V.str; rw [erase_map ws k]
theorem seq_nat {d n : Nat} (h : d < n) : seqIndex? (d : Int) n = some d := by
  rw [PySem.seqIndex_of (by omega) (by omega)]
  simp
structure Bn (mg : Str → Option Value) : Prop where
  list : mg "list" = none
  len : mg "len" = none
  range : mg "range" = none
  min : mg "min" = none
  sorted : mg "sorted" = none
  tuple : mg "tuple" = none
def PreSome (ds : List PyData) : Prop := ∃ (zs : List Str) (most : Nat), ds = [.list (zs.map .str), .int most] ∧ zs.length ≤ 20 ∧ most ≤ 20
def PhiSome (ds : List PyData) (d : PyData) : Prop := ∀ (zs : List Str) (most : Nat), ds = [.list (zs.map .str), .int most] → ∃ ys rest : List Str, d = .list (ys.map .str) ∧ (ys ++ rest).Perm zs ∧ ys.length ≤ most
theorem erase_perm : ∀ (ws : List Str) (d : Nat) (h : d < ws.length), (ws[d] :: ws.eraseIdx d).Perm ws
  | w :: ws, 0, _ => List.Perm.refl _
  | w :: ws, d + 1, h => (List.Perm.swap w _ _).trans ((erase_perm ws d (Nat.lt_of_succ_lt_succ h)).cons w)
theorem perm_step (ws ys : List Str) {d : Nat} (h : d < ws.length) : ((ys ++ [ws[d]]) ++ ws.eraseIdx d).Perm (ys ++ ws) := by
  rw [List.append_assoc]
  refine List.Perm.append_left ys ?_
  exact erase_perm ws d h
section
variable {P : Program} {w : World} {K : PySem.W.Frag} {mg : Str → Option Value} {base : Heap}
theorem scSome : FnScope ["_law_pen_here", "_law_pool", "_law_most", "_law_rest", "_law_turn"] ["_law_pen_here", "_law_pool", "_law_most"] (defScope sSome) := ⟨rfl, rfl, rfl, by decide +kernel, rfl, by decide +kernel, by decide +kernel⟩
theorem ok_some {f : Addr} {fd : FuncData} (F : Fun K "_law_some" "_law_some" sSome f fd) (G : Bn mg) (cD : CalN P w K mg base 2 "_law_draw" spDraw) : FnOk P w K mg base CX0 3 f fd ["_law_pen_here", "_law_pool", "_law_most"] (spGen PreSome PhiSome 100) := by
  refine Fun.okW F scSome (fun vs H Q E ⟨p, L, n, S0, ws, ds, e, _, _, g, _, _, ⟨zs, most, e2, _⟩, _⟩ => by rw [e, List.length_cons, g.length, e2]; rfl) (fun cdv B out s H vs Q E hr h => ?_)
  obtain ⟨p, L, n, S, ws0, ds, rfl, sp, dom, g0, Pn, hn, ⟨zs, most, rfl, hz, hm⟩, q⟩ := h
  cases g0 with
  | cons gp r0 => cases r0 with
    | cons gm r0 =>
      cases r0
      cases gm
      obtain ⟨pool, xs0, rfl, hpool, nSp, gxs⟩ := DG.lstU gp
      have exs := gxs.unstr
      subst exs
      have npp : pool ≠ p := fun e => nSp (e ▸ sp)
      refine l_cons (s_set 3 (e_listL G.list (e_var 1 rfl ⟨pool, _, rfl, .inl (.inl (.inl hpool)), fun r hr0 => ?_⟩)) scSome.nd)
      have nrp : r ≠ p := Pn.newP hr0
      have nrL : r ≠ L := Pn.newL hr0
      have s1 := same_new (o := .lst (zs.map V.str)) hr0
      have P1 := Pn.same s1
      have r1 : (upd H r (.lst (zs.map V.str))) r = some (.lst (zs.map V.str)) := upd_same
      generalize hH1 : upd H r (.lst (zs.map V.str)) = H1 at s1 P1 r1
      refine l_one (s_ret (e_lcR 4 G.range scSome.nd (blkOk_by (N := ["_law_pen_here", "_law_pool", "_law_most", "_law_rest", "_law_turn"]) (sc := defScope sSome) (by decide +kernel)) (e_c cD hr (by decide) (a_cons (e_var 0 rfl (a_cons (e_addI (e_min G.min (e_var 2 rfl (e_len G.len (e_var 3 rfl ⟨r, _, rfl, .inl (.inl (.inl r1)), most, _, rfl, rfl, ?_⟩)))))))) ) (fun _ _ _ _ _ => pg_name (i := 4) scSome.nd rfl (Or.inl rfl))))
      rw [List.length_map]
      generalize hk : (if (zs.length : Int) < (most : Int) then (zs.length : Int) else (most : Int)) = kk
      have k0 : 0 ≤ kk ∧ kk ≤ most ∧ kk ≤ zs.length := by rw [← hk]; split <;> omega
      refine e_int ⟨kk, 1, rfl, rfl, a_nil ⟨p, L, n, kk + 1, rfl, P1, by omega, by omega, by omega, fun d H2 b2 P2 hd => ⟨d, rfl, by omega, fun D nD => ?_⟩⟩⟩
      have r2 := b2 _ _ nrp r1
      have nDp : D ≠ p := P2.newP nD
      have nDL : D ≠ L := P2.newL nD
      have nDr : D ≠ r := (ne_of_none r2 nD).symm
      refine ⟨fun i H3 => ∃ ws ys : List Str, (∀ b o, b ≠ p → b ≠ r → H1 b = some o → H3 b = some o) ∧ Pen H3 p L (n + 1 + i) ∧ H3 r = some (.lst (ws.map V.str)) ∧ H3 D = some (.lst (ys.map V.str)) ∧ ws.length + i = zs.length ∧ ys.length = i ∧ (ys ++ ws).Perm zs, ?_, ?_, ?_⟩
      · refine ⟨zs, [], fun b o nb _ h => same_mut (Same.refl H2) nD b o (b2 b o nb h), P2.same (same_new nD), by rw [upd_ne nDr.symm]; exact r2, upd_same, by omega, rfl, List.Perm.refl _⟩
      · rintro i H3 hi ⟨ws, ys, k1, k2, k3, k4, k5, k6, k7⟩ s0 H00 C cl fp
        have hw : 0 < ws.length := by omega
        refine e_pop (e_var 3 rfl ⟨⟨r, _, rfl, .inl (.inl k3)⟩, e_c cD hr (by decide) (a_cons (e_var 0 rfl (a_cons (e_len G.len (e_var 3 rfl ⟨r, _, rfl, .inl (.inl (.inl k3)), a_nil ⟨p, L, n + 1 + i, _, rfl, k2, by omega, ?_, ?_, fun d' H4 b4 P4 hd' => ?_⟩⟩)))))⟩)
        · rw [List.length_map]; omega
        · rw [List.length_map]; omega
        rw [List.length_map] at hd'
        have hd2 : d' < ws.length := by omega
        have r4 := b4 _ _ nrp k3
        have d4 := b4 _ _ nDp k4
        refine ⟨r, _, d', d', .str ws[d'], rfl, rfl, r4, by omega, by omega, seq_nat (by rw [List.length_map]; exact hd2), by rw [List.getElem?_map, List.getElem?_eq_getElem hd2]; rfl, ?_⟩
        have g4 : (upd H4 r (.lst ((ws.map V.str).eraseIdx d'))) D = some (.lst (ys.map V.str)) := by rw [upd_ne nDr]; exact d4
        refine ⟨_, g4, ?_, ws.eraseIdx d', ys ++ [ws[d']], fun b o nb nr h => ?_, ?_, ?_, ?_, ?_, ?_, ?_⟩
        · rw [List.length_map, k6]
          exact Nat.lt_of_lt_of_le (show i < 100 by omega) (by decide)
        · have nbD : b ≠ D := fun e => by
            subst e
            have : H1 b = none := by
              cases z : H1 b with
              | none => rfl
              | some o2 => rw [b2 b o2 nDp z] at nD; cases nD
            rw [this] at h
            cases h
          rw [upd_ne nbD, upd_ne nr]
          exact b4 b o nb (k1 b o nb nr h)
        · exact (P4.upd nrp nrL).upd nDp nDL
        · rw [upd_ne nDr.symm, upd_same, erase_map]
        · rw [upd_same, List.map_append]
          rfl
        · rw [List.length_eraseIdx_of_lt hd2]; omega
        · rw [List.length_append, k6]; rfl
        · exact (perm_step ws ys hd2).trans k7
      · rintro H3 ⟨ws, ys, k1, k2, k3, k4, k5, k6, k7⟩
        refine q (.ref D) (.list (ys.map .str)) H3 (fun b o nb h => ?_) (k2.mono (by omega)) (.lst k4 (fun z => ?_) (DGs.strs ys)) fun zs' most' e => ?_
        · have nbr : b ≠ r := ne_of_none h hr0
          exact k1 b o nb nbr (s1 b o h)
        · have hD : H D = none := by
            cases z2 : H D with
            | none => rfl
            | some o2 => rw [b2 D o2 nDp (s1 D o2 z2)] at nD; cases nD
          exact dom D z hD
        · injection e with e1 e2
          injection e2 with e2 _
          injection e1 with e1
          injection e2 with e2
          have ez : zs' = zs := by
            have := congrArg (List.map My.strOf) e1
            rw [List.map_map, List.map_map] at this
            have i1 : (My.strOf ∘ PyData.str) = (id : Str → Str) := rfl
            rw [i1, List.map_id, List.map_id] at this
            exact this.symm
          subst ez
          exact ⟨ys, ws, rfl, k7, by omega⟩
abbrev wPool : List Str := ["a", "b", "c", "ulm"]
/-- values as drawn: ascending, of the pool, one to three -/
def Wor (d : PyData) : Prop := ∃ zs : List Str, d = .tuple (zs.map .str) ∧ 1 ≤ zs.length ∧ zs.length ≤ 3 ∧ ascS zs = true ∧ ∀ z ∈ zs, z ∈ wPool
theorem asc_srt {zs : List Str} (h : zs.Nodup) : ascS (srt zs) = true := by
  have hn : (srt zs).Nodup := (srt_perm zs).nodup_iff.mpr h
  rw [asc_iff]
  exact ((srt_pw zs).and hn).imp fun ⟨h1, h2⟩ => by
    rename_i a b
    apply Classical.byContradiction
    intro h3
    exact h2 (lt_tri h3 h1)
theorem srt_mem {zs : List Str} {z : Str} : z ∈ srt zs ↔ z ∈ zs := (srt_perm zs).mem_iff
theorem wPool_small : ∀ z ∈ wPool, valS z = true := by decide +kernel
theorem shaped_vals {zs : List Str} (h : ∀ z ∈ zs, z ∈ wPool) : zs.all valS = true := List.all_eq_true.mpr fun z hz => wPool_small z (h z hz)
theorem scWorths : FnScope ["_law_pen_here", "_law_found"] ["_law_pen_here"] (defScope sWorths) := ⟨rfl, rfl, rfl, by decide +kernel, rfl, by decide +kernel, by decide +kernel⟩
theorem eg_sorted {X : Cx} {ρ : Rho} {e : Expr} {pos q1 : Pos} {c : Nat} {Φ : List Str → Prop} (hm : X.mg "sorted" = none) (h : EG X ρ e (fun d => ∃ zs : List Str, d = .list (zs.map .str) ∧ Φ zs) c) (hl : ∀ zs, Φ zs → zs.length < 64) (hg : Gl X "sorted" := by rfl)
    (he : starEach [e] X.env = (false, eval e X.env) :: starEach [] X.env := by rfl) : EG X ρ (.Call (.Name "sorted" q1) [e] [] pos) (fun d => ∃ zs : List Str, d = .list ((srt zs).map .str) ∧ Φ zs) c := fun p L S σ H n Q g hn q =>
  e_sorted hm (h p L S σ H n _ g hn fun v d H1 b1 P1 g1 ⟨zs, e1, f1⟩ => by
    subst e1
    obtain ⟨a, xs, rfl, ha, nS, hs⟩ := DG.lstU g1
    rw [hs.unstr] at ha
    refine ⟨a, zs, rfl, .inl (.inl ha), hl zs f1, fun ys r hp hsrt nr => ?_⟩
    rw [srt_uniq hp hsrt]
    exact q _ _ _ (b1.trans (But.of (same_new nr))) (P1.same (same_new nr)) (.lst upd_same (fun z => (g.but b1 P1).sl.dom r z nr) (DGs.strs _)) ⟨zs, rfl, f1⟩) hg he
theorem ok_worths {f : Addr} {fd : FuncData} (F : Fun K "_law_worths" "_law_worths" sWorths f fd) (G : Bn mg) (cS : CalN P w K mg base 3 "_law_some" (spGen PreSome PhiSome 100)) : FnOk P w K mg base CX0 4 f fd ["_law_pen_here"] (spGen (fun ds => ds = []) (fun _ => Wor) 100) := by
  refine Fun.okGen F scWorths (fun ds h => by rw [h]; rfl) fun cdv B out s H E ds hr hd => ?_
  subst hd
  refine (lg_set 1 (Φ := fun d => ∃ zs : List Str, d = .list ((srt zs).map .str) ∧ zs.Nodup ∧ zs.length ≤ 3 ∧ ∀ z ∈ zs, z ∈ wPool) (c1 := 100) (c2 := 0) ((eg_sorted (Φ := fun zs => zs.Nodup ∧ zs.length ≤ 3 ∧ ∀ z ∈ zs, z ∈ wPool) G.sorted ((eg_call cS hr (by decide) (ad_cons (d_lit (.lst (.cons (.str _) (.cons (.str _) (.cons (.str _) (.cons (.str _) .nil)))) (by decide))) (ad_cons (d_int 3) ad_nil)) ⟨wPool, 3, rfl, by decide, by decide⟩).mono (fun d f => ?_) (Nat.le_refl _)) (fun zs f => by omega)).mono (fun d f => f) (Nat.le_refl _)) (fun d f => ?_) (by decide) scWorths.nd).mono (fun _ f => f) (by decide)
  · obtain ⟨ys, rest, e, hp, hl⟩ := f wPool 3 rfl
    have nd : (ys ++ rest).Nodup := hp.nodup_iff.mpr (by decide +kernel)
    exact ⟨ys, e, (List.nodup_append.mp nd).1, hl, fun z hz => hp.mem_iff.mp (List.mem_append_left _ hz)⟩
  · obtain ⟨zs, rfl, nd, hl, hm⟩ := f
    have hl2 : (srt zs).length = zs.length := (srt_perm zs).length_eq
    have hm2 : ∀ z ∈ srt zs, z ∈ wPool := fun z hz => hm z (srt_mem.mp hz)
    by_cases he : srt zs = []
    · refine lg_ret ((eg_of (d := .tuple [.str "b"]) (d_if (k := false) (td_cmp (o_neD hr.units) (d_var 1) (d_lst ad_nil (by decide)) ⟨shaped_listS (shaped_vals hm2), rfl, by rw [he]; rfl⟩) (fun e => by cases e) (fun _ => d_tup (ad_cons (d_str _) ad_nil) (by decide)))).mono (fun d e => ?_) (Nat.le_refl _))
      rw [e]
      exact ⟨["b"], rfl, by decide, by decide, by decide +kernel, by decide +kernel⟩
    · have h1 : 1 ≤ (srt zs).length := by
        cases h : srt zs with
        | nil => exact absurd h he
        | cons z r => exact Nat.succ_pos _
      refine lg_ret ((eg_of (d := .tuple ((srt zs).map .str)) (d_if (k := true) (td_cmp (o_neD hr.units) (d_var 1) (d_lst ad_nil (by decide)) ⟨shaped_listS (shaped_vals hm2), rfl, ?_⟩) (fun _ => d_tupL G.tuple (d_var 1)) (fun e => by cases e))).mono (fun d e => ?_) (Nat.le_refl _))
      · cases h : srt zs with
        | nil => exact absurd h he
        | cons z r => rfl
      · rw [e]
        exact ⟨srt zs, rfl, h1, by omega, asc_srt nd, hm2⟩
end
end K86

namespace K86
open PySem PySem.Spec PyProof.Rows L2 My
abbrev sEntry : Stmt := top 21
abbrev nyms : List Str := ["emp", "free", "none", "column", "boss", "rule", "at", "right", "f", "unmade", "text", "word"]
def Nm (d : PyData) : Prop := ∃ z : Str, z ∈ nyms ∧ d = .str z
def Ni (d : PyData) : Prop := ∃ k : Nat, k < 12 ∧ d = .int k
def SoD (d : PyData) : Prop := ∃ zs : List Str, d = .tuple (zs.map .str) ∧ 1 ≤ zs.length ∧ zs.length ≤ 2 ∧ ∀ z ∈ zs, z ∈ nyms
def prD (x : Str × Nat) : PyData := .tuple [.str x.1, .int (x.2 : Int)]
def PsD (d : PyData) : Prop := ∃ ps : List (Str × Nat), d = .tuple (ps.map prD) ∧ 1 ≤ ps.length ∧ ps.length ≤ 3 ∧ ∀ x ∈ ps, x.1 ∈ nyms ∧ x.2 < 12
def RuD (d : PyData) : Prop := d = .none ∨ ∃ (m : Nat) (v : PyData), m < 12 ∧ Wor v ∧ d = .tuple [.int (m : Int), v]
inductive Ent : PyData → Prop
  | at' {a b i : PyData} (ha : Nm a) (hb : Nm b) (hi : Ni i) : Ent (.tuple [.str "at", a, b, i])
  | free {a b : PyData} (ha : Nm a) (hb : Nm b) : Ent (.tuple [.str "free", a, b])
  | column {i a j : PyData} (hi : Ni i) (ha : Nm a) (hj : Ni j) : Ent (.tuple [.str "column", i, a, j])
  | bare {i a : PyData} (hi : Ni i) (ha : Nm a) : Ent (.tuple [.str "bare", i, a])
  | columns {i s : PyData} (hi : Ni i) (hs : PsD s) : Ent (.tuple [.str "columns", i, s])
  | function {a b s i : PyData} (ha : Nm a) (hb : Nm b) (hs : SoD s) (hi : Ni i) : Ent (.tuple [.str "function", a, b, s, i])
  | unmade {a b s : PyData} (ha : Nm a) (hb : Nm b) (hs : SoD s) : Ent (.tuple [.str "unmade", a, b, s])
  | right {a i : PyData} (ha : Nm a) (hi : Ni i) : Ent (.tuple [.str "right", a, i])
  | rule {a i r : PyData} (ha : Nm a) (hi : Ni i) (hr : RuD r) : Ent (.tuple [.str "rule", a, i, r])
theorem list3 {ds : List PyData} {Φ : PyData → Prop} (h : ∀ d ∈ ds, Φ d) (l : ds.length = 3) : ∃ a b c, ds = [a, b, c] ∧ Φ a ∧ Φ b ∧ Φ c := by
  match ds, l with
  | [a, b, c], _ => exact ⟨a, b, c, rfl, h a (by simp), h b (by simp), h c (by simp)⟩
theorem list4 {ds : List PyData} {Φ : PyData → Prop} (h : ∀ d ∈ ds, Φ d) (l : ds.length = 4) : ∃ a b c e, ds = [a, b, c, e] ∧ Φ a ∧ Φ b ∧ Φ c ∧ Φ e := by
  match ds, l with
  | [a, b, c, e], _ => exact ⟨a, b, c, e, rfl, h a (by simp), h b (by simp), h c (by simp), h e (by simp)⟩
theorem nm_of {d : PyData} (h : d ∈ nyms.map PyData.str) : Nm d := by
  obtain ⟨z, hz, e⟩ := List.mem_map.mp h
  exact ⟨z, hz, e.symm⟩
theorem ps_of : ∀ {ds : List PyData}, (∀ d ∈ ds, ∃ x : Str × Nat, d = prD x ∧ x.1 ∈ nyms ∧ x.2 < 12) → ∃ ps : List (Str × Nat), ds = ps.map prD ∧ ∀ x ∈ ps, x.1 ∈ nyms ∧ x.2 < 12
  | [], _ => ⟨[], rfl, fun x h => by cases h⟩
  | d :: ds, h => by
    obtain ⟨ps, e, k⟩ := ps_of (ds := ds) fun e he => h e (List.mem_cons_of_mem _ he)
    obtain ⟨x, e1, k1⟩ := h d List.mem_cons_self
    refine ⟨x :: ps, by rw [e, e1]; rfl, fun y hy => ?_⟩
    rcases List.mem_cons.mp hy with rfl | hy
    · exact k1
    · exact k y hy
abbrev nEntry : List Str := ["_law_pen_here", "_law_nyms", "_law_turn", "_law_one", "_law_other", "_law_last", "_law_few", "_law_sorts", "_law_k", "_law_pairs", "_law_rule_here", "_law_some_here"]
section
variable {P : Program} {w : World} {K : PySem.W.Frag} {mg : Str → Option Value} {base : Heap}
theorem scEntry : FnScope nEntry ["_law_pen_here"] (defScope sEntry) := ⟨rfl, rfl, rfl, by decide +kernel, rfl, by decide +kernel, by decide +kernel⟩
theorem ok_entry {f : Addr} {fd : FuncData} (F : Fun K "_law_entry" "_law_entry" sEntry f fd) (G : Bn mg) (cD : CalN P w K mg base 2 "_law_draw" spDraw) (cW : CalN P w K mg base 4 "_law_worths" (spGen (fun ds => ds = []) (fun _ => Wor) 100)) :
    FnOk P w K mg base CX0 5 f fd ["_law_pen_here"] (spGen (fun ds => ds = []) (fun _ => Ent) 200) := by
  refine Fun.okGen F scEntry (fun ds h => by rw [h]; rfl) fun cdv B out s H E ds hr hd => ?_
  subst hd
  refine lg_setD 1 (d := .list (nyms.map .str)) (d_lit (.lst (.cons (.str _) (.cons (.str _) (.cons (.str _) (.cons (.str _) (.cons (.str _) (.cons (.str _) (.cons (.str _) (.cons (.str _) (.cons (.str _) (.cons (.str _) (.cons (.str _) (.cons (.str _) .nil)))))))))))) (by decide))) ?_ (by decide) scEntry.nd
  refine lg_unp3B (c1 := 3) (P3 := fun x y z => Nm x ∧ Nm y ∧ Nm z) 3 4 5 ?e1 (fun d1 d2 d3 f => ?_) (by decide) (by decide) (by decide) (pg_lst rfl (pgs_cons (pg_name (i := 3) scEntry.nd rfl (.inl rfl)) (pgs_cons (pg_name (i := 4) scEntry.nd rfl (.inl rfl)) (pgs_cons (pg_name (i := 5) scEntry.nd rfl (.inl rfl)) pgs_nil))))
  case e1 =>
    refine EG.mono (eg_lcR (N := 3) (N0 := fun m => m = 3) (Φ := Nm) (c1 := 0) (c2 := 1) 2 (by decide) G.range scEntry.nd (blkOk_by (N := nEntry) (sc := defScope sEntry) (by decide +kernel)) (EG.mono (eg_of (d_int 3)) (fun d e => ⟨3, e, Nat.le_refl _, rfl⟩) (Nat.le_refl _)) (by decide) (fun i hi s0 H00 C cl fp => ?_) (fun _ _ _ _ _ => pg_name (i := 2) scEntry.nd rfl (Or.inl rfl))) (fun d f => ?_) (by decide)
    · exact EG.mono (eg_ixL (ds := nyms.map .str) (d_var 1) (EG.mono (eg_draw cD hr (by decide) (d_lenL G.len (d_var 1)) (by decide) (by decide)) (fun d ⟨k, e, hk⟩ => ⟨k, e, Int.ofNat_lt.mp hk⟩) (Nat.le_refl _))) (fun d h => nm_of h) (Nat.le_refl _)
    · obtain ⟨ds, e, f1, l1, l2⟩ := f
      obtain ⟨a, b, c, e2, ha, hb, hc⟩ := list3 f1 l2
      exact ⟨a, b, c, by rw [e, e2], ha, hb, hc⟩
  obtain ⟨h1, h2, h3⟩ := f
  refine lg_setB (c1 := 4) (Φ := fun d => ∃ ds, d = .list ds ∧ (∀ x ∈ ds, Ni x) ∧ ds.length = 4) 6 ?e2 (fun d f => ?_) (by decide) scEntry.nd
  case e2 =>
    refine EG.mono (eg_lcR (N := 4) (N0 := fun m => m = 4) (Φ := Ni) (c1 := 0) (c2 := 1) 2 (by decide) G.range scEntry.nd (blkOk_by (N := nEntry) (sc := defScope sEntry) (by decide +kernel)) (EG.mono (eg_of (d_int 4)) (fun d e => ⟨4, e, Nat.le_refl _, rfl⟩) (Nat.le_refl _)) (by decide) (fun i hi s0 H00 C cl fp => ?_) (fun _ _ _ _ _ => pg_name (i := 2) scEntry.nd rfl (Or.inl rfl))) (fun d ⟨ds, e, f1, l1, l2⟩ => ⟨ds, e, f1, l2⟩) (by decide)
    exact EG.mono (eg_draw cD hr (by decide) (d_int 12) (by decide) (by decide)) (fun d ⟨k, e, hk⟩ => ⟨k, by omega, e⟩) (Nat.le_refl _)
  obtain ⟨ds, rfl, f, l2⟩ := f
  obtain ⟨a0, a1, a2, a3, rfl, k0, k1, k2, k3⟩ := list4 f l2
  refine lg_setB (c1 := 1) (Φ := SoD) 7 (EG.mono (eg_slTo (Φ := fun k => 1 ≤ k) (d_tup (ad_cons (d_var 5) (ad_cons (d_var 4) ad_nil)) (Nat.le_of_ble_eq_true rfl)) (EG.mono (eg_addN (i := 1) (Φ := fun k => True) (d_int 1) (EG.mono (eg_draw cD hr (by decide) (d_int 2) (by decide) (by decide)) (fun d ⟨k, e, hk⟩ => ⟨k, e, trivial⟩) (Nat.le_refl _))) (fun d ⟨k, e, _⟩ => ⟨1 + k, e, by omega⟩) (Nat.le_refl _))) (fun d f => ?_) (Nat.le_refl _)) (fun dso hso => ?_) (by decide) scEntry.nd
  · obtain ⟨k, e, hk⟩ := f
    obtain ⟨z2, m2, rfl⟩ := h2
    obtain ⟨z3, m3, rfl⟩ := h3
    refine ⟨[z3, z2].take k, by rw [e, List.map_take]; rfl, ?_, ?_, fun z hz => ?_⟩
    · rw [List.length_take]; show 1 ≤ min k 2; omega
    · rw [List.length_take]; show min k 2 ≤ 2; omega
    · have := List.mem_of_mem_take hz
      rcases List.mem_cons.mp this with rfl | this
      · exact m3
      · rw [List.mem_singleton.mp this]; exact m2
  refine lg_setB (c1 := 1) (Φ := PsD) 9 (EG.mono (eg_tupL (Ψ := fun ds => (∀ d ∈ ds, ∃ x : Str × Nat, d = prD x ∧ x.1 ∈ nyms ∧ x.2 < 12) ∧ 1 ≤ ds.length ∧ ds.length ≤ 3) G.tuple (EG.mono (eg_lcR (c1 := 1) (c2 := 0) (N := 3) (N0 := fun m => 1 ≤ m) (Φ := fun d => ∃ x : Str × Nat, d = prD x ∧ x.1 ∈ nyms ∧ x.2 < 12) 8 (by decide) G.range scEntry.nd (blkOk_by (N := nEntry) (sc := defScope sEntry) (by decide +kernel)) (EG.mono (eg_addN (i := 1) (Φ := fun k => k < 3) (d_int 1) (EG.mono (eg_draw cD hr (by decide) (d_int 3) (by decide) (by decide)) (fun d ⟨k, e, hk⟩ => ⟨k, e, by omega⟩) (Nat.le_refl _))) (fun d ⟨k, e, hk⟩ => ⟨1 + k, e, by omega, by omega⟩) (Nat.le_refl _)) (by decide) (fun i hi s0 H00 C cl fp => ?_) (fun _ _ _ _ _ => pg_name (i := 8) scEntry.nd rfl (Or.inl rfl))) (fun d ⟨ds, e, f1, l1, l2⟩ => ⟨ds, e, f1, l2, l1⟩) (Nat.le_refl _))) (fun d f => ?_) (Nat.le_refl _)) (fun dps hps => ?_) (by decide) scEntry.nd
  · have hx : ∃ x, ([a0, a1, a2, a3] : List PyData)[i]? = some x ∧ Ni x := by
      match i, hi with
      | 0, _ => exact ⟨a0, rfl, k0⟩
      | 1, _ => exact ⟨a1, rfl, k1⟩
      | 2, _ => exact ⟨a2, rfl, k2⟩
    obtain ⟨x, hx, m, hm, rfl⟩ := hx
    have hm2 : (nyms.map PyData.str)[m]? = some (.str (nyms[m]'hm)) := by rw [List.getElem?_map, List.getElem?_eq_getElem (show m < nyms.length from hm)]; rfl
    refine EG.mono (eg_of (d_tup (ad_cons (d_ixL (d_var 1) (d_ixL (d_var 6) (d_var 8) hx) hm2) (ad_cons (d_ixL (d_var 6) (d_var 8) hx) ad_nil)) (Nat.le_of_ble_eq_true rfl))) (fun d e => ?_) (Nat.zero_le 0)
    exact ⟨(nyms[m]'hm, m), e, List.getElem_mem _, hm⟩
  · obtain ⟨ds, e, f1, l1, l2⟩ := f
    obtain ⟨ps, e2, f2⟩ := ps_of f1
    subst e2
    rw [List.length_map] at l1 l2
    exact ⟨ps, e, l1, l2, f2⟩
  refine lg_setB (c1 := 101) (Φ := RuD) 10 (eg_if (c' := 100) ((tg_eqI (EG.mono (eg_draw cD hr (by decide) (d_int 3) (by decide) (by decide)) (fun d ⟨k, e, hk⟩ => ⟨k, e, trivial⟩) (Nat.le_refl _)) (d_int 0))) (EG.mono (eg_of d_non) (fun d e => .inl e) (Nat.le_refl _)) (EG.mono (eg_tup (ag_cons (eg_of (d_ixL (i := 0) (d_var 6) (d_int 0) rfl)) (ag_cons (eg_call cW hr (by decide) ad_nil rfl) ag_nil)) (fun ds f => ?_)) (fun d f => ?_) (Nat.le_refl _)) (by decide) (by decide)) (fun dru hru => ?_) (by decide) scEntry.nd
  · obtain ⟨d, r, e, _, d2, r2, e2, _, e3⟩ := f
    rw [e, e2, e3]; exact Nat.le_of_ble_eq_true rfl
  · obtain ⟨ds, e, d1, r, e1, f1, d2, r2, e2, f2, e3⟩ := f
    obtain ⟨m, hm, em⟩ := k0
    exact .inr ⟨m, d2, hm, f2, by rw [e, e1, e2, e3, f1, em]⟩
  refine lg_setD 11 (d_lst (ad_cons (d_tup (ad_cons (d_str _) (ad_cons (d_var 3) (ad_cons (d_var 4) (ad_cons (d_ixL (i := 0) (d_var 6) (d_int 0) rfl) ad_nil)))) (Nat.le_of_ble_eq_true rfl)) (ad_cons (d_tup (ad_cons (d_str _) (ad_cons (d_var 3) (ad_cons (d_var 4) ad_nil))) (Nat.le_of_ble_eq_true rfl)) (ad_cons (d_tup (ad_cons (d_str _) (ad_cons (d_ixL (i := 0) (d_var 6) (d_int 0) rfl) (ad_cons (d_var 3) (ad_cons (d_ixL (i := 1) (d_var 6) (d_int 1) rfl) ad_nil)))) (Nat.le_of_ble_eq_true rfl)) (ad_cons (d_tup (ad_cons (d_str _) (ad_cons (d_ixL (i := 0) (d_var 6) (d_int 0) rfl) (ad_cons (d_var 3) ad_nil))) (Nat.le_of_ble_eq_true rfl)) ad_nil)))) (Nat.le_of_ble_eq_true rfl)) ?_ (by decide) scEntry.nd
  refine lg_setD 11 (d_catL (d_var 11) (d_lst (ad_cons (d_tup (ad_cons (d_str _) (ad_cons (d_ixL (i := 0) (d_var 6) (d_int 0) rfl) (ad_cons (d_var 9) ad_nil))) (Nat.le_of_ble_eq_true rfl)) (ad_cons (d_tup (ad_cons (d_str _) (ad_cons (d_var 3) (ad_cons (d_var 4) (ad_cons (d_var 7) (ad_cons (d_ixL (i := 0) (d_var 6) (d_int 0) rfl) ad_nil))))) (Nat.le_of_ble_eq_true rfl)) (ad_cons (d_tup (ad_cons (d_str _) (ad_cons (d_var 3) (ad_cons (d_var 4) (ad_cons (d_var 7) ad_nil)))) (Nat.le_of_ble_eq_true rfl)) ad_nil))) (Nat.le_of_ble_eq_true rfl)) (Nat.le_of_ble_eq_true rfl)) ?_ (by decide) scEntry.nd
  refine lg_setD 11 (d_catL (d_var 11) (d_lst (ad_cons (d_tup (ad_cons (d_str _) (ad_cons (d_var 3) (ad_cons (d_ixL (i := 0) (d_var 6) (d_int 0) rfl) ad_nil))) (Nat.le_of_ble_eq_true rfl)) (ad_cons (d_tup (ad_cons (d_str _) (ad_cons (d_var 3) (ad_cons (d_ixL (i := 1) (d_var 6) (d_int 1) rfl) (ad_cons (d_var 10) ad_nil)))) (Nat.le_of_ble_eq_true rfl)) ad_nil)) (Nat.le_of_ble_eq_true rfl)) (Nat.le_of_ble_eq_true rfl)) ?_ (by decide) scEntry.nd
  refine lg_retB (c1 := 1) (EG.mono (eg_ixL (d_var 11) (EG.mono (eg_draw cD hr (by decide) (d_int 9) (by decide) (by decide)) (fun d ⟨k, e, hk⟩ => ⟨k, e, ?_⟩) (Nat.le_refl _))) (fun d hd => ?_) (Nat.le_refl _))
  · show k < 9; omega
  · simp only [List.cons_append, List.nil_append, List.mem_cons, List.not_mem_nil, or_false] at hd
    rcases hd with rfl | rfl | rfl | rfl | rfl | rfl | rfl | rfl | rfl
    · exact .at' h1 h2 k0
    · exact .free h1 h2
    · exact .column k0 h1 k1
    · exact .bare k0 h1
    · exact .columns k0 hps
    · exact .function h1 h2 hso k0
    · exact .unmade h1 h2 hso
    · exact .right h1 k0
    · exact .rule h1 k1 hru
end
end K86

namespace K86
open PySem PySem.Spec PyProof.Rows L2 My
abbrev sQuoted : Stmt := top 3
abbrev sTValues : Stmt := top 4
abbrev sWriteE : Stmt := top 12
abbrev sTParts : Stmt := top 13
abbrev sTPart : Stmt := top 14
def iv : PyData → Int | .int i => i | _ => 0
def rowT (ds : List PyData) : Str := ("(" : Str) ++ Txt.join (", " : Str) (ds.map sv) ++ (")" : Str)
def prT (d : PyData) : Str := sv (at' d 0) ++ (" " : Str) ++ numT (iv (at' d 1))
def pairsT (ds : List PyData) : Str := Txt.join (" " : Str) (ds.map prT)
def ruleT (d : PyData) : Str := if isNone d = true then "none" else numT (iv (at' d 0)) ++ (" " : Str) ++ valsT (els (at' d 1))
def partT (w : Str) (d : PyData) : Str := if w = "name" then sv d else if w = "number" then numT (iv d) else if w = "names" then rowT (els d) else if w = "pairs" then pairsT (els d) else ruleT d
inductive OkPart : Str → PyData → Prop
  | name {z : Str} (h : z.length ≤ 20) : OkPart "name" (.str z)
  | number {k : Nat} (h : k < 100) : OkPart "number" (.int (k : Int))
  | names {zs : List Str} (l : zs.length ≤ 5) (h : ∀ z ∈ zs, z.length ≤ 20) : OkPart "names" (.tuple (zs.map .str))
  | pairs {ps : List (Str × Nat)} (l : ps.length ≤ 5) (h : ∀ x ∈ ps, x.1.length ≤ 20 ∧ x.2 < 100) : OkPart "pairs" (.tuple (ps.map prD))
  | none : OkPart "rule" .none
  | rule {m : Nat} {zs : List Str} (hm : m < 100) (l : zs.length ≤ 5) (h : ∀ z ∈ zs, z.length ≤ 20) : OkPart "rule" (.tuple [.int (m : Int), .tuple (zs.map .str)])
theorem num_len : ∀ k < 100, (numT (k : Nat)).length ≤ 2 := by decide +kernel
theorem log_small {k : Nat} (h : k < 100) : ((k : Int)).natAbs.log2 < 1920 := by
  have : ∀ j < 100, ((j : Nat) : Int).natAbs.log2 < 1920 := by decide +kernel
  exact this k h
def RQuo (ds : List PyData) (d : PyData) : Prop := ∃ z : Str, ds = [.str z] ∧ z.length ≤ 100 ∧ d = .str (quoT z)
def RVals (ds : List PyData) (d : PyData) : Prop := ∃ zs : List Str, ds = [.tuple (zs.map .str)] ∧ zs.length ≤ 10 ∧ (∀ z ∈ zs, z.length ≤ 20) ∧ d = .str (valsT (zs.map .str))
def RPart (ds : List PyData) (d : PyData) : Prop := ∃ e w, ds = [e, .str w] ∧ OkPart w e ∧ d = .str (partT w e)
theorem quo_len (z : Str) : (quoT z).length = z.length + 2 := by
  unfold quoT
  rw [lenC, lenC]
  show 1 + z.length + 1 = _
  omega
theorem vals_map (zs : List Str) : (zs.map PyData.str).map (fun d => quoT (sv d)) = zs.map quoT := by rw [List.map_map]; rfl
theorem sv_map (zs : List Str) : (zs.map PyData.str).map sv = zs := by rw [List.map_map]; exact List.map_id _
theorem vals_len {zs : List Str} (l : zs.length ≤ 10) (h : ∀ z ∈ zs, z.length ≤ 20) : ((zs.map quoT).map (·.length)).sum + (zs.map quoT).length * (", " : Str).length ≤ 240 := by
  have h1 : ((zs.map quoT).map (·.length)).sum ≤ (zs.map quoT).length * 22 := sum_le fun x hx => by
    obtain ⟨z, hz, rfl⟩ := List.mem_map.mp hx
    rw [quo_len]; have := h z hz; omega
  rw [List.length_map] at h1 ⊢
  have e : (", " : Str).length = 2 := rfl
  rw [e]
  omega
theorem valsT_len {zs : List Str} (l : zs.length ≤ 10) (h : ∀ z ∈ zs, z.length ≤ 20) : (valsT (zs.map .str)).length ≤ 250 := by
  unfold valsT
  rw [vals_map, lenC, lenC]
  have h1 := len_join (", " : Str) (zs.map quoT)
  have h2 := vals_len l h
  have e1 : ("(" : Str).length = 1 := rfl
  have e2 : (")" : Str).length = 1 := rfl
  omega
theorem names_len {zs : List Str} (l : zs.length ≤ 5) (h : ∀ z ∈ zs, z.length ≤ 20) : (zs.map (·.length)).sum + zs.length * (", " : Str).length ≤ 110 := by
  have h1 : (zs.map (·.length)).sum ≤ zs.length * 20 := sum_le h
  have e : (", " : Str).length = 2 := rfl
  rw [e]
  omega
theorem pr_len {x : Str × Nat} (h : x.1.length ≤ 20 ∧ x.2 < 100) : (prT (prD x)).length ≤ 23 := by
  show (x.1 ++ (" " : Str) ++ numT (x.2 : Int)).length ≤ 23
  rw [lenC, lenC]
  have := num_len x.2 h.2
  have e : (" " : Str).length = 1 := rfl
  omega
theorem pairs_len {ps : List (Str × Nat)} (l : ps.length ≤ 5) (h : ∀ x ∈ ps, x.1.length ≤ 20 ∧ x.2 < 100) : (((ps.map prD).map prT).map (·.length)).sum + ((ps.map prD).map prT).length * (" " : Str).length ≤ 120 := by
  have h1 : (((ps.map prD).map prT).map (·.length)).sum ≤ ((ps.map prD).map prT).length * 23 := sum_le fun x hx => by
    obtain ⟨d, hd, rfl⟩ := List.mem_map.mp hx
    obtain ⟨y, hy, rfl⟩ := List.mem_map.mp hd
    exact pr_len (h y hy)
  rw [List.length_map, List.length_map] at h1 ⊢
  have e : (" " : Str).length = 1 := rfl
  rw [e]
  omega
theorem part_len {w : Str} {d : PyData} (h : OkPart w d) : (partT w d).length ≤ 300 := by
  cases h with
  | @name z h => show z.length ≤ 300; omega
  | @number k h => show (numT k).length ≤ 300; have := num_len k h; omega
  | @names zs l h =>
    show (rowT (zs.map .str)).length ≤ 300
    unfold rowT
    rw [sv_map, lenC, lenC]
    have h1 := len_join (", " : Str) zs
    have h2 := names_len l h
    have e1 : ("(" : Str).length = 1 := rfl
    have e2 : (")" : Str).length = 1 := rfl
    omega
  | @pairs ps l h =>
    show (Txt.join (" " : Str) ((ps.map prD).map prT)).length ≤ 300
    have h1 := len_join (" " : Str) ((ps.map prD).map prT)
    have h2 := pairs_len l h
    omega
  | none => decide +kernel
  | @rule m zs hm l h =>
    show (numT m ++ (" " : Str) ++ valsT (zs.map .str)).length ≤ 300
    rw [lenC, lenC]
    have := num_len m hm
    have := valsT_len (zs := zs) (by omega) h
    have e : (" " : Str).length = 1 := rfl
    omega
structure Bw (mg : Str → Option Value) : Prop where
  str : mg "str" = none
  zip : mg "zip" = none
section
variable {P : Program} {w : World} {K : PySem.W.Frag} {mg : Str → Option Value} {base : Heap}
theorem scQuoted : FnScope ["word"] ["word"] (defScope sQuoted) := ⟨rfl, rfl, rfl, by decide +kernel, rfl, by decide +kernel, by decide +kernel⟩
theorem ok_quoted {f : Addr} {fd : FuncData} (F : Fun K "quoted" "quoted" sQuoted f fd) : FnOk P w K mg base CX0 1 f fd ["word"] (spR RQuo) := by
  refine Fun.okR F scQuoted (fun ds d ⟨z, e, _⟩ => by rw [e]; rfl) fun cdv B out s H E ds d hr ⟨z, e, l, e2⟩ => ?_
  subst e e2
  exact ld_end (sd_ret (d_addS (d_addS (d_str _) (d_var 0) (by show 1 + z.length ≤ 100000; omega)) (d_str _) (by rw [lenC]; show 1 + z.length + 1 ≤ 100000; omega)))
theorem scTValues : FnScope ["values", "word"] ["values"] (defScope sTValues) := ⟨rfl, rfl, rfl, by decide +kernel, rfl, by decide +kernel, by decide +kernel⟩
theorem ok_tvalues {f : Addr} {fd : FuncData} (F : Fun K "text_of_values" "text_of_values" sTValues f fd) (cQ : CalN P w K mg base 1 "quoted" (spR RQuo)) : FnOk P w K mg base CX0 2 f fd ["values"] (spR RVals) := by
  refine Fun.okR F scTValues (fun ds d ⟨z, e, _⟩ => by rw [e]; rfl) fun cdv B out s H E ds d hr ⟨zs, e, l, h, e2⟩ => ?_
  subst e e2
  have hv := vals_len l h
  have hj := len_join (", " : Str) (zs.map quoT)
  refine ld_end (sd_ret ?_)
  unfold valsT
  rw [vals_map]
  refine d_addS (d_addS (d_str _) (d_joinL (d_str _) (ED.cast (d_lcT (n := 0) 1 (fun d => .str (quoT (sv d))) scTValues.nd (blkOk_by (N := ["values", "word"]) (sc := defScope sTValues) (by decide +kernel)) (d_var 0) (by rw [List.length_map]; omega) (fun d hd => ?_) (fun _ _ _ _ _ => pg_name (i := 1) scTValues.nd rfl (Or.inl rfl))) ?_) (by omega)) ?_) (d_str _) ?_
  · intro s0 H00 C cl fp
    obtain ⟨z, hz, rfl⟩ := List.mem_map.mp hd
    exact d_callR cQ hr (by decide) (ad_cons (d_var 1) ad_nil) ⟨z, rfl, by have := h z hz; omega, rfl⟩
  · rw [List.map_map, List.map_map]; rfl
  · show 1 + _ ≤ 100000; omega
  · rw [lenC]; show 1 + _ + 1 ≤ 100000; omega
abbrev nTPart : List Str := ["part", "word", "name", "kind", "number"]
theorem scTPart : FnScope nTPart ["part", "word"] (defScope sTPart) := ⟨rfl, rfl, rfl, by decide +kernel, rfl, by decide +kernel, by decide +kernel⟩
theorem ld_ifno {X : Cx} {ρ : Rho} {l l1 : List Stmt} {a b : Expr} {pos p2 : Pos} {z y : Str} {d : PyData} (hu : X.A.units + 64 < cLine) (ha : ED X ρ a (.str z)) (hb : ED X ρ b (.str y)) (n : decide (z = y) = false) (h : LD X ρ l (.ret d)) (hm : behindInMarks .Eq b = false := by first | exact nomark _ | with_unfolding_all rfl) : LD X ρ (.If (.Compare a [.Eq] [b] p2) l1 [] pos :: l) (.ret d) :=
  ld_ifret (k := false) (td_cmp (o_eqS hu) ha hb ⟨y, rfl, n.symm⟩ hm) (fun e => by cases e) fun _ => h
theorem ld_ifyes {X : Cx} {ρ : Rho} {l l1 : List Stmt} {a b : Expr} {pos p2 : Pos} {z y : Str} {d : PyData} (hu : X.A.units + 64 < cLine) (ha : ED X ρ a (.str z)) (hb : ED X ρ b (.str y)) (n : decide (z = y) = true) (h : LD X ρ l1 (.ret d)) (hm : behindInMarks .Eq b = false := by first | exact nomark _ | with_unfolding_all rfl) : LD X ρ (.If (.Compare a [.Eq] [b] p2) l1 [] pos :: l) (.ret d) :=
  ld_ifret (k := true) (td_cmp (o_eqS hu) ha hb ⟨y, rfl, n.symm⟩ hm) (fun _ => h) fun e => by cases e
theorem ok_tpart {f : Addr} {fd : FuncData} (F : Fun K "text_of_part" "text_of_part" sTPart f fd) (G : Bw mg) (cV : CalN P w K mg base 2 "text_of_values" (spR RVals)) : FnOk P w K mg base CX0 3 f fd ["part", "word"] (spR RPart) := by
  refine Fun.okR F scTPart (fun ds d ⟨z, w, e, _⟩ => by rw [e]; rfl) fun cdv B out s H E ds d hr ⟨e, wd, e1, ok, e2⟩ => ?_
  subst e1 e2
  cases ok with
  | @name z h =>
    refine ld_ifyes hr.units (d_var 1) (d_str _) rfl (ld_end (sd_ret (d_var 0)))
  | @number k h =>
    refine ld_ifno hr.units (d_var 1) (d_str _) (by decide +kernel) (ld_ifyes hr.units (d_var 1) (d_str _) rfl (ld_end (sd_ret (d_strI G.str (d_var 0) (log_small h)))))
  | @names zs l h =>
    have hl := names_len l h
    have hj := len_join (", " : Str) zs
    iterate 2 refine ld_ifno hr.units (d_var 1) (d_str _) (by decide +kernel) ?_
    refine ld_ifyes hr.units (d_var 1) (d_str _) rfl (ld_end (sd_ret ?_))
    show ED _ _ _ (.str (rowT (zs.map .str)))
    unfold rowT
    rw [sv_map]
    exact d_addS (d_addS (d_str _) (d_joinT (d_str _) (d_var 0) (by omega)) (by show 1 + _ ≤ 100000; omega)) (d_str _) (by rw [lenC]; show 1 + _ + 1 ≤ 100000; omega)
  | @pairs ps l h =>
    have hl := pairs_len l h
    iterate 7 refine ld_ifno hr.units (d_var 1) (d_str _) (by decide +kernel) ?_
    refine ld_ifyes hr.units (d_var 1) (d_str _) rfl (ld_end (sd_ret ?_))
    show ED _ _ _ (.str (Txt.join (" " : Str) ((ps.map prD).map prT)))
    refine d_joinL (d_str _) (ED.cast (d_lcT2 2 4 (fun d => .str (prT d)) (by decide) scTPart.nd (blkOk_by (N := nTPart) (sc := defScope sTPart) (by decide +kernel)) (d_var 0) (by rw [List.length_map]; omega) (fun d hd => ?_) (fun _ _ _ _ _ => pg_tup rfl (pgs_cons (pg_name (i := 2) scTPart.nd rfl (.inl rfl)) (pgs_cons (pg_name (i := 4) scTPart.nd rfl (.inl rfl)) pgs_nil)))) ?_) (by omega)
    · obtain ⟨x, hx, rfl⟩ := List.mem_map.mp hd
      obtain ⟨h1, h2⟩ := h x hx
      have hn := num_len x.2 h2
      refine ⟨.str x.1, .int (x.2 : Int), rfl, fun s0 H00 C cl fp => ?_⟩
      show ED _ _ _ (.str (x.1 ++ (" " : Str) ++ numT (x.2 : Int)))
      exact d_addS (d_addS (d_var 2) (d_str _) (by show x.1.length + 1 ≤ 100000; omega)) (d_strI G.str (d_var 4) (log_small h2)) (by rw [lenC]; show x.1.length + 1 + _ ≤ 100000; omega)
    · rw [List.map_map (g := PyData.str)]; rfl
  | none =>
    iterate 8 refine ld_ifno hr.units (d_var 1) (d_str _) (by decide +kernel) ?_
    exact ld_end (sd_ret (d_if (k := true) (td_isN (d := .none) (d_var 0)) (fun _ => d_str _) fun e => by cases e))
  | @rule m zs hm l h =>
    have hv := valsT_len (zs := zs) (by omega) h
    have hn := num_len m hm
    iterate 8 refine ld_ifno hr.units (d_var 1) (d_str _) (by decide +kernel) ?_
    refine ld_end (sd_ret (d_if (k := false) (td_isN (d := .tuple [.int (m : Int), .tuple (zs.map .str)]) (d_var 0)) (fun e => by cases e) fun _ => ?_))
    show ED _ _ _ (.str (numT (m : Int) ++ (" " : Str) ++ valsT (zs.map .str)))
    exact d_addS (d_addS (d_strI G.str (d_ix (i := 0) (d_var 0) (d_int 0) rfl) (log_small hm)) (d_str _) (by show (numT (m : Int)).length + 1 ≤ 100000; omega)) (d_callR cV hr (by decide) (ad_cons (d_ix (i := 1) (d_var 0) (d_int 1) rfl) ad_nil) ⟨zs, rfl, by omega, h, rfl⟩) (by rw [lenC]; show (numT (m : Int)).length + 1 + _ ≤ 100000; omega)
/-! parts by a pattern -/
def zT (pat : List (Str × Str)) (ds : List PyData) : List Str := List.zipWith (fun sw d => sw.1 ++ partT sw.2 d) pat ds
def OkParts : List (Str × Str) → List PyData → Prop
  | [], [] => True
  | (s, w) :: pat, d :: ds => s.length ≤ 30 ∧ OkPart w d ∧ OkParts pat ds
  | _, _ => False
theorem OkParts.len : ∀ {pat : List (Str × Str)} {ds : List PyData}, OkParts pat ds → pat.length = ds.length
  | [], [], _ => rfl
  | _ :: _, _ :: _, h => congrArg (· + 1) (OkParts.len h.2.2)
  | [], _ :: _, h => h.elim
  | _ :: _, [], h => h.elim
theorem OkParts.get : ∀ {pat : List (Str × Str)} {ds : List PyData} {i : Nat} {s w : Str} {d : PyData}, OkParts pat ds → pat[i]? = some (s, w) → ds[i]? = some d → s.length ≤ 30 ∧ OkPart w d
  | (s, w) :: pat, d :: ds, 0, _, _, _, h, e1, e2 => by cases e1; cases e2; exact ⟨h.1, h.2.1⟩
  | (s, w) :: pat, d :: ds, i + 1, _, _, _, h, e1, e2 => OkParts.get (i := i) h.2.2 (by simpa using e1) (by simpa using e2)
  | [], [], _, _, _, _, _, e1, _ => by cases e1
  | [], _ :: _, _, _, _, _, h, _, _ => h.elim
  | _ :: _, [], _, _, _, _, h, _, _ => h.elim
theorem zT_len : ∀ {pat : List (Str × Str)} {ds : List PyData}, OkParts pat ds → ((zT pat ds).map (·.length)).sum ≤ pat.length * 330
  | [], [], _ => Nat.le_refl _
  | (s, w) :: pat, d :: ds, h => by
    have ih := zT_len h.2.2
    have h1 := part_len h.2.1
    have h2 := h.1
    show ((s ++ partT w d) :: zT pat ds |>.map (·.length)).sum ≤ _
    rw [List.map_cons, List.sum_cons, lenC, List.length_cons, Nat.add_mul, Nat.one_mul]
    omega
  | [], _ :: _, h => h.elim
  | _ :: _, [], h => h.elim
def spParts (K : PySem.W.Frag) : Sp := fun vs H Q _ => ∃ S pv v pat ds, vs = [pv, v] ∧ KPat K pv pat ∧ DG S H v (.tuple ds) ∧ (∀ a, S a → H a ≠ none) ∧ OkParts pat ds ∧ pat.length ≤ 10 ∧ ∀ H', Same H H' → Q (.str (Txt.join Str.empty (zT pat ds))) H'
abbrev nTParts : List Str := ["pattern", "parts", "sign", "word", "part"]
theorem scTParts : FnScope nTParts ["pattern", "parts"] (defScope sTParts) := ⟨rfl, rfl, rfl, by decide +kernel, rfl, by decide +kernel, by decide +kernel⟩
theorem take_zip {α β γ : Type} (f : α → β → γ) : ∀ {l : List α} {m : List β} {i : Nat} {a : α} {b : β}, l[i]? = some a → m[i]? = some b → (List.zipWith f l m).take (i + 1) = (List.zipWith f l m).take i ++ [f a b]
  | x :: l, y :: m, 0, _, _, e1, e2 => by cases e1; cases e2; rfl
  | x :: l, y :: m, i + 1, _, _, e1, e2 => by
    have ih := take_zip f (i := i) (l := l) (m := m) (by simpa using e1) (by simpa using e2)
    show f x y :: (List.zipWith f l m).take (i + 1) = f x y :: (List.zipWith f l m).take i ++ _
    rw [ih]; rfl
  | [], _, _, _, _, e1, _ => by simp at e1
  | _ :: _, [], _, _, _, _, e2 => by simp at e2
theorem ok_tparts {f : Addr} {fd : FuncData} (F : Fun K "text_of_parts" "text_of_parts" sTParts f fd) (G : Bw mg) (cP : CalN P w K mg base 3 "text_of_part" (spR RPart)) : FnOk P w K mg base CX0 4 f fd ["pattern", "parts"] (spParts K) := by
  refine Fun.okW F scTParts (fun vs H Q E ⟨_, _, _, _, _, e, _⟩ => by rw [e]; rfl) (fun cdv B out s H vs Q E hr h => ?_)
  obtain ⟨S, pv, v, pat, ds, rfl, ⟨a, ts, rfl, hts, kp⟩, gd, dom, ok, l10, q⟩ := h
  obtain ⟨b, xs, rfl, hb, gxs, sqb⟩ := gd.seq (K := K)
  have lt := kp.length
  have lx := gxs.length
  have lo := ok.len
  refine l_one (s_ret (e_join (e_str ⟨Str.empty, rfl, ?_⟩)))
  refine e_lcZ (g := gTup K 2 (gCons (gTup K 2 (gCons (gName 2) (gCons (gName 3) gNil))) (gCons (gName 4) gNil))) [("sign", 2), ("word", 3), ("part", 4)] G.zip scTParts.nd (blkOk_by (N := nTParts) (sc := defScope sTParts) (by decide +kernel)) ?hw ?hg
  case hg => exact fun _ _ _ _ _ => pg_tup rfl (pgs_cons (pg_tup rfl (pgs_cons (pg_name (i := 2) scTParts.nd rfl (.inl rfl)) (pgs_cons (pg_name (i := 3) scTParts.nd rfl (.inl rfl)) pgs_nil))) (pgs_cons (pg_name (i := 4) scTParts.nd rfl (.inl rfl)) pgs_nil))
  refine a_cons (e_var 0 rfl (a_cons (e_var 1 rfl (a_nil ⟨a, b, ts, xs, rfl, hts _, sqb, by omega, fun D nD => ?_⟩))))
  have sN := same_new (o := .lst []) nD
  refine ⟨fun i H' => Same H H' ∧ H' D = some (.lst (((zT pat ds).take i).map V.str)) ∧ i ≤ 10, ⟨sN, upd_same, Nat.zero_le _⟩, fun i H' ⟨s1, _⟩ => ⟨hts _, sqb.elim (fun _ => .inl (.inl (s1 _ _ hb))) (fun _ => .inl (.inl (s1 _ _ hb)))⟩, fun i x y T H' hx hy ⟨s1, h1, hi⟩ hT => ?_, fun H' ⟨s1, h1, _⟩ => ?_⟩
  · obtain ⟨t, sg, wd, rfl, hp, ht⟩ := kp.get hx
    obtain ⟨d, hd, gy⟩ := gxs.get hy
    obtain ⟨hs30, okp⟩ := ok.get hp hd
    have hpl := part_len okp
    have sT := same_new (o := .tup [.ref t, y]) hT
    refine ⟨T, _, rfl, .inl (.inl upd_same), rfl, _, _, rfl, t, _, rfl, ht _, rfl, _, _, rfl, _, _, rfl, rfl, _, _, rfl, rfl, rfl, ?_⟩
    show WB _ _ _ [some (.ref a), some (.ref b), some (.str sg), some (.str wd), some y] _ _
    intro s0 H00 C cl fp
    have s2 := s1.trans sT
    refine e_addS (e_var 2 rfl (e_c cP hr (by decide) (a_cons (e_var 4 rfl (a_cons (e_var 3 rfl (a_nil ⟨S, [d, .str wd], _, .cons (gy.same s2) (.cons (.str _) .nil), in_same s2 dom, ⟨d, wd, rfl, okp, rfl⟩, fun u H4 s4 g4 => ?_⟩)))))))
    cases g4
    have h4 := s4 _ _ (sT _ _ h1)
    have hlt : i < (zT pat ds).length := by
      show i < (List.zipWith _ pat ds).length
      rw [List.length_zipWith]
      have a1 := (List.getElem?_eq_some_iff.mp hp).1
      have a2 := (List.getElem?_eq_some_iff.mp hd).1
      omega
    have i9 : i < 10 := by have a1 := (List.getElem?_eq_some_iff.mp hp).1; omega
    refine ⟨sg, partT wd d, rfl, rfl, ?_, _, h4, ?_, same_mut (s2.trans s4) nD, ?_, i9⟩
    · exact Nat.le_trans (show sg.length + (partT wd d).length ≤ 400 by omega) (by decide)
    · rw [List.length_map, List.length_take]
      exact Nat.lt_of_le_of_lt (Nat.min_le_left _ _) (Nat.lt_of_lt_of_le (show i < 100 by omega) (by decide))
    · rw [upd_same]
      show some (HO.lst _) = some (HO.lst (((List.zipWith _ pat ds).take (i + 1)).map V.str))
      rw [take_zip _ hp hd, List.map_append]
      rfl
  · have e : (zT pat ds).length = ts.length := by
      show (List.zipWith _ pat ds).length = _
      rw [List.length_zipWith]; omega
    rw [← e, List.take_length] at h1
    have hl := zT_len ok
    refine ⟨D, zT pat ds, rfl, .inl (.inl (.inl h1)), ?_, q H' s1⟩
    have e0 : Str.empty.length = 0 := rfl
    rw [e0]
    omega
end
end K86

namespace K86
open PySem PySem.Spec PyProof.Rows L2 My
abbrev tab : List (Str × List (Str × Str)) := [("at", [("at ", "name"), (".", "name"), (" ", "number")]), ("free", [("free ", "name"), (".", "name")]), ("column", [("column ", "number"), (" ", "name"), (" ", "number")]), ("bare", [("bare ", "number"), (" ", "name")]), ("columns", [("columns ", "number"), (" ", "pairs")]), ("function", [("function ", "name"), (".", "name"), (" ", "names"), (" ", "number")]), ("unmade", [("unmade ", "name"), (".", "name"), (" ", "names")]), ("right", [("right ", "name"), (" ", "number")]), ("rule", [("rule ", "name"), (" ", "number"), (" ", "rule")])]
def patOf (k : Str) : List (Str × Str) := (tab.lookup k).getD []
def entT (e : PyData) : Str := Txt.join Str.empty (zT (patOf (sv (at' e 0))) ((els e).drop 1))
theorem nyms_len : ∀ z ∈ nyms, z.length ≤ 8 := by decide +kernel
theorem Nm.ok {d : PyData} (h : Nm d) : OkPart "name" d := by obtain ⟨z, hz, rfl⟩ := h; exact .name (by have := nyms_len z hz; omega)
theorem Ni.ok {d : PyData} (h : Ni d) : OkPart "number" d := by obtain ⟨k, hk, rfl⟩ := h; exact .number (by omega)
theorem SoD.ok {d : PyData} (h : SoD d) : OkPart "names" d := by obtain ⟨zs, rfl, _, l, h⟩ := h; exact .names (by omega) fun z hz => by have := nyms_len z (h z hz); omega
theorem PsD.ok {d : PyData} (h : PsD d) : OkPart "pairs" d := by obtain ⟨ps, rfl, _, l, h⟩ := h; exact .pairs (by omega) fun x hx => ⟨by have := nyms_len _ (h x hx).1; omega, by have := (h x hx).2; omega⟩
theorem wPool_len : ∀ z ∈ wPool, z.length ≤ 3 := by decide +kernel
theorem RuD.ok {d : PyData} (h : RuD d) : OkPart "rule" d := by
  rcases h with rfl | ⟨m, v, hm, ⟨zs, rfl, _, l, _, h⟩, rfl⟩
  · exact .none
  · exact .rule (by omega) (by omega) fun z hz => by have := wPool_len z (h z hz); omega
theorem ent_ok {e : PyData} (h : Ent e) : ∃ k pat rest, e = .tuple (.str k :: rest) ∧ (k, pat) ∈ tab ∧ patOf k = pat ∧ OkParts pat rest ∧ pat.length ≤ 10 := by
  cases h with
  | at' ha hb hi => exact ⟨"at", _, _, rfl, .head _, rfl, ⟨by decide, ha.ok, by decide, hb.ok, by decide, hi.ok, trivial⟩, by decide⟩
  | free ha hb => exact ⟨"free", _, _, rfl, .tail _ (.head _), by decide +kernel, ⟨by decide, ha.ok, by decide, hb.ok, trivial⟩, by decide⟩
  | column hi ha hj => exact ⟨"column", _, _, rfl, .tail _ (.tail _ (.head _)), by decide +kernel, ⟨by decide, hi.ok, by decide, ha.ok, by decide, hj.ok, trivial⟩, by decide⟩
  | bare hi ha => exact ⟨"bare", _, _, rfl, .tail _ (.tail _ (.tail _ (.head _))), by decide +kernel, ⟨by decide, hi.ok, by decide, ha.ok, trivial⟩, by decide⟩
  | columns hi hs => exact ⟨"columns", _, _, rfl, .tail _ (.tail _ (.tail _ (.tail _ (.head _)))), by decide +kernel, ⟨by decide, hi.ok, by decide, hs.ok, trivial⟩, by decide⟩
  | function ha hb hs hi => exact ⟨"function", _, _, rfl, .tail _ (.tail _ (.tail _ (.tail _ (.tail _ (.head _))))), by decide +kernel, ⟨by decide, ha.ok, by decide, hb.ok, by decide, hs.ok, by decide, hi.ok, trivial⟩, by decide⟩
  | unmade ha hb hs => exact ⟨"unmade", _, _, rfl, .tail _ (.tail _ (.tail _ (.tail _ (.tail _ (.tail _ (.head _)))))), by decide +kernel, ⟨by decide, ha.ok, by decide, hb.ok, by decide, hs.ok, trivial⟩, by decide⟩
  | right ha hi => exact ⟨"right", _, _, rfl, .tail _ (.tail _ (.tail _ (.tail _ (.tail _ (.tail _ (.tail _ (.head _))))))), by decide +kernel, ⟨by decide, ha.ok, by decide, hi.ok, trivial⟩, by decide⟩
  | rule ha hi hr => exact ⟨"rule", _, _, rfl, .tail _ (.tail _ (.tail _ (.tail _ (.tail _ (.tail _ (.tail _ (.tail _ (.head _)))))))), by decide +kernel, ⟨by decide, ha.ok, by decide, hi.ok, by decide, hr.ok, trivial⟩, by decide⟩
theorem entT_len {e : PyData} (h : Ent e) : (entT e).length ≤ 3300 := by
  obtain ⟨k, pat, rest, rfl, _, hp, ok, l⟩ := ent_ok h
  show (Txt.join Str.empty (zT (patOf k) rest)).length ≤ 3300
  rw [hp]
  have h1 := len_join Str.empty (zT pat rest)
  have h2 := zT_len ok
  have e0 : Str.empty.length = 0 := rfl
  rw [e0] at h1
  omega
theorem cut1 (x : PyData) (r : List PyData) : My.cutD (x :: r) (some 1) none = r := by
  unfold My.cutD
  rw [show (some (1 : Int)) = some ((1 : Nat) : Int) from rfl, HT.sIx_none, HT.sIx_nat, Nat.min_eq_left (show 1 ≤ (x :: r).length by rw [List.length_cons]; omega)]
  show r.take _ = r
  exact List.take_of_length_le (by rw [List.length_cons]; omega)
def REnt (ds : List PyData) (d : PyData) : Prop := ∃ e, ds = [e] ∧ Ent e ∧ d = .str (entT e)
section
variable {P : Program} {w : World} {K : PySem.W.Frag} {mg : Str → Option Value} {base : Heap}
theorem scWriteE : FnScope ["entry"] ["entry"] (defScope sWriteE) := ⟨rfl, rfl, rfl, by decide +kernel, rfl, by decide +kernel, by decide +kernel⟩
theorem ok_writeE {f : Addr} {fd : FuncData} (F : Fun K "write_entry" "write_entry" sWriteE f fd) (gE : ∃ a, mg "ENTRY_PATTERNS" = some (.ref a) ∧ KTab w K a tab) (cT : CalN P w K mg base 4 "text_of_parts" (spParts K)) : FnOk P w K mg base CX0 5 f fd ["entry"] (spR REnt) := by
  refine Fun.okW F scWriteE (fun vs H Q E ⟨S0, ds, d, g, _, ⟨e, e1, _⟩, _⟩ => by rw [g.length, e1]; rfl) (fun cdv B out s H vs Q E hr h => ?_)
  obtain ⟨S, ds, d, g, dom, ⟨e, rfl, he, rfl⟩, q⟩ := h
  obtain ⟨k, pat, rest, rfl, hm, hp, ok, l⟩ := ent_ok he
  obtain ⟨aE, mE, tE⟩ := gE
  obtain ⟨pv, kd, kp⟩ := tE k pat hm
  have sl := sl_start (N := ["entry"]) g dom
  refine l_one (s_ret (e_c cT hr (by decide) (a_cons (e_ix ix_kdict (e_glob (v := .ref aE) mE rfl ((d_ix (i := 0) (d_var 0) (d_int 0) rfl) S _ H _ sl fun u H1 s1 g1 => ?_))))))
  cases g1
  refine ⟨aE, k, pv, rfl, rfl, kd, a_cons ((ED.cast (d_slFrom (d_var 0) (d_int 1)) (congrArg PyData.tuple (cut1 (.str k) rest))) S _ H1 _ (sl.same s1) fun v H2 s2 g2 => ?_)⟩
  have ee : entT (.tuple (.str k :: rest)) = Txt.join Str.empty (zT pat rest) := by
    show Txt.join Str.empty (zT (patOf k) rest) = _
    rw [hp]
  rw [ee] at q
  exact a_nil ⟨S, pv, v, pat, rest, rfl, kp, g2, in_same (s1.trans s2) dom, ok, l, fun H3 s3 => q _ H3 ((s1.trans s2).trans s3) (.str _)⟩
end
end K86

namespace K86
open PySem PySem.Spec PyProof.Rows L2 My
abbrev sLText : Stmt := top 22
theorem csi {a b : Str} (h : cs a = cs b) : a = b := str_ext h
theorem cs_emp : cs Str.empty = [] := rfl
theorem o_inS {X : Cx} : OpR X (compareOp .In) (rP fun d e b => ∃ (z : Str) (zs : List Str), d = .str z ∧ e = .tuple (zs.map PyData.str) ∧ b = decide (z ∈ zs)) := fun pins s σ H x y v u Q I rx ry ⟨S, d, e, b, g1, g2, ⟨z, zs, e1, e2, e3⟩, q⟩ => by
  subst e1 e2 e3
  cases g1
  obtain ⟨a, xs, rfl, ha, hs, sq⟩ := g2.seq (K := X.K)
  rw [strsE hs] at sq
  refine op_in_seq pins s σ H _ _ v u Q I rx ry ⟨a, _, rfl, .inr sq, rfl, flat_strs' _, ?_⟩
  show Q (.bl (inV (.str z) (zs.map V.str))) H
  rw [inV_strs]
  exact q
theorem join_emp (l : List Str) : cs (Txt.join Str.empty l) = (l.map cs).flatten := by
  cases l with
  | nil => rfl
  | cons a l =>
    rw [cs_join, cs_emp]
    rfl
theorem cs_join0 (s : Str) (l : List Str) : cs (Txt.join s l) = match l with | [] => [] | a :: l => cs a ++ (l.map fun p => cs s ++ cs p).flatten := by
  cases l with
  | nil => rfl
  | cons a l => exact cs_join s a l
/-- a text before each -/
theorem flat_join (s : Str) : ∀ (l : List Str), l ≠ [] → (l.map fun p => cs s ++ cs p).flatten = cs s ++ cs (Txt.join s l)
  | [], h => absurd rfl h
  | a :: l, _ => by rw [cs_join, List.map_cons, List.flatten_cons, List.append_assoc]
def strT : PyData → Str | .str z => z | .int i => numT i | _ => Str.empty
abbrev nLText : List Str := ["_law_one", "_law_kind", "_law_pair", "_law_text_here", "_law_worth", "_law_part"]
structure Bv (mg : Str → Option Value) : Prop where
  str : mg "str" = none
  list : mg "list" = none
section
variable {P : Program} {w : World} {K : PySem.W.Frag} {mg : Str → Option Value} {base : Heap}
theorem scLText : FnScope nLText ["_law_one"] (defScope sLText) := ⟨rfl, rfl, rfl, by decide +kernel, rfl, by decide +kernel, by decide +kernel⟩
theorem LD.castS {X : Cx} {ρ : Rho} {l : List Stmt} {a b : Str} (h : LD X ρ l (.ret (.str a))) (e : cs a = cs b) : LD X ρ l (.ret (.str b)) := csi e ▸ h
theorem z20 {z : Str} (h : z ∈ nyms) : z.length ≤ 20 := by have := nyms_len z h; omega
theorem n2 {k : Nat} (h : k < 12) : (numT (k : Int)).length ≤ 2 := num_len k (by omega)
theorem lg2 {k : Nat} (h : k < 12) : ((k : Int)).natAbs.log2 < 1920 := log_small (by omega)
theorem ld_last {X : Cx} {ρ : Rho} {e : Expr} {pos : Pos} {a b : Str} {l : List Stmt} (h : ED X ρ e (.str a)) (q : cs a = cs b) : LD X ρ (.Return (some e) pos :: l) (.ret (.str b)) := LD.castS (ld_end (sd_ret h)) q
theorem last3 {f : Addr} {fd : FuncData} (F : Fun K "_law_entry_text" "_law_entry_text" sLText f fd) (G : Bv mg) {cdv : Value} {B : Around} {out : List Env} {s : Shared} {H : Hp} {E : XK} (hu : (B.deeper (envOfC "_law_entry_text" (defScope sLText) s.heap.objs.size f cdv)).units + 64 < cLine) (sc : FnScope nLText ["_law_one"] (defScope sLText))
    {k : Str} {ds r : List PyData} {t : Str} (e0 : ds = .str k :: r) (n1 : decide (k = "at") = false) (n2 : decide (k = "free") = false) (n3 : decide (k = "columns") = false) (n4 : decide (k ∈ (["function", "unmade"] : List Str)) = false) (n5 : decide (k = "rule") = false)
    (hd : ∀ d ∈ ds, (∃ z, d = .str z ∧ z.length ≤ 20) ∨ ∃ i : Nat, d = .int (i : Int) ∧ i < 12) (hl : ds.length ≤ 5) (q : cs (Txt.join (" " : Str) (ds.map strT)) = cs t) :
    LD (cxOf CX0 P w K mg base nLText "_law_entry_text" (defScope sLText) f cdv B out s H E).nox (startD nLText [.tuple ds]) (defBody sLText) (.ret (.str t)) := by
  have hs : ((ds.map strT).map (·.length)).sum ≤ (ds.map strT).length * 20 := sum_le fun x hx => by
    obtain ⟨d, hd', rfl⟩ := List.mem_map.mp hx
    rcases hd d hd' with ⟨z, rfl, h⟩ | ⟨i, rfl, h⟩
    · exact h
    · have := K86.n2 h; show (numT (i : Int)).length ≤ 20; omega
  rw [List.length_map] at hs
  refine ld_cons (sd_set 1 (d_ix (i := 0) (d_var 0) (d_int 0) (by rw [e0]; rfl)) sc.nd) ?_
  refine ld_ifno hu (d_var 1) (d_str _) n1 (ld_ifno hu (d_var 1) (d_str _) n2 (ld_ifno hu (d_var 1) (d_str _) n3 (ld_ifret (k := false) (td_cmp o_inS (d_var 1) (d_lit (.tup (.cons (.str _) (.cons (.str _) .nil)) (by decide))) ⟨k, ["function", "unmade"], rfl, rfl, n4.symm⟩) (fun e => by cases e) fun _ => ld_ifno hu (d_var 1) (d_str _) n5 (ld_last (d_joinL (d_str _) (ED.cast (d_lcT (n := 0) 5 (fun d => .str (strT d)) sc.nd (blkOk_by (N := nLText) (sc := defScope sLText) (by decide +kernel)) (d_var 0) (by omega) (fun d hd' => ?_) (fun _ _ _ _ _ => pg_name (i := 5) sc.nd rfl (Or.inl rfl))) ?_) ?_) q))))
  · intro s0 H00 C cl fp
    rcases hd d hd' with ⟨z, rfl, h⟩ | ⟨i, rfl, h⟩
    · exact d_strS G.str (d_var 5)
    · exact d_strI G.str (d_var 5) (lg2 h)
  · rw [List.map_map]; rfl
  · rw [List.length_map]
    have e : (" " : Str).length = 1 := rfl
    rw [e]
    omega
theorem ok_ltext {f : Addr} {fd : FuncData} (F : Fun K "_law_entry_text" "_law_entry_text" sLText f fd) (G : Bv mg) : FnOk P w K mg base CX0 1 f fd ["_law_one"] (spR REnt) := by
  refine Fun.okR F scLText (fun ds d ⟨z, e, _⟩ => by rw [e]; rfl) fun cdv B out s H E ds d hr ⟨e, e1, he, e2⟩ => ?_
  subst e1 e2
  have hu := hr.units
  cases he with
  | at' ha hb hi =>
    obtain ⟨a, ha, rfl⟩ := ha
    obtain ⟨b, hb, rfl⟩ := hb
    obtain ⟨i, hi, rfl⟩ := hi
    refine ld_cons (sd_set 1 (d_ix (i := 0) (d_var 0) (d_int 0) rfl) scLText.nd) (ld_ifyes hu (d_var 1) (d_str _) rfl (ld_last (eds_add (eds_add (eds_add (eds_add (eds_add eds_c (eds_of (d_ix (i := 1) (d_var 0) (d_int 1) rfl) (z20 ha))) eds_c) (eds_of (d_ix (i := 2) (d_var 0) (d_int 2) rfl) (z20 hb))) eds_c) (eds_of (d_strI G.str (d_ix (i := 3) (d_var 0) (d_int 3) rfl) (lg2 hi)) (n2 hi))).h ?_))
    show _ = cs (Txt.join Str.empty [("at " : Str) ++ a, ("." : Str) ++ b, (" " : Str) ++ numT (i : Int)])
    simp only [join_emp, cs_cat, List.map_cons, List.map_nil, List.flatten_cons, List.flatten_nil, List.append_assoc, List.append_nil]
    try rfl
  | free ha hb =>
    obtain ⟨a, ha, rfl⟩ := ha
    obtain ⟨b, hb, rfl⟩ := hb
    refine ld_cons (sd_set 1 (d_ix (i := 0) (d_var 0) (d_int 0) rfl) scLText.nd) (ld_ifno hu (d_var 1) (d_str _) (by decide +kernel) (ld_ifyes hu (d_var 1) (d_str _) rfl (ld_last (eds_add (eds_add (eds_add eds_c (eds_of (d_ix (i := 1) (d_var 0) (d_int 1) rfl) (z20 ha))) eds_c) (eds_of (d_ix (i := 2) (d_var 0) (d_int 2) rfl) (z20 hb))).h ?_)))
    show _ = cs (Txt.join Str.empty [("free " : Str) ++ a, ("." : Str) ++ b])
    simp only [join_emp, cs_cat, List.map_cons, List.map_nil, List.flatten_cons, List.flatten_nil, List.append_assoc, List.append_nil]
    try rfl
  | column hi ha hj =>
    obtain ⟨a, ha, rfl⟩ := ha
    obtain ⟨i, hi, rfl⟩ := hi
    obtain ⟨j, hj, rfl⟩ := hj
    refine last3 F G hu scLText rfl (by decide +kernel) (by decide +kernel) (by decide +kernel) (by decide +kernel) (by decide +kernel) (fun d hd => ?_) (Nat.le_of_ble_eq_true rfl) ?_
    · simp only [List.mem_cons, List.not_mem_nil, or_false] at hd
      rcases hd with rfl | rfl | rfl | rfl
      · exact .inl ⟨_, rfl, by decide⟩
      · exact .inr ⟨i, rfl, hi⟩
      · exact .inl ⟨_, rfl, z20 ha⟩
      · exact .inr ⟨j, rfl, hj⟩
    · show _ = cs (Txt.join Str.empty [("column " : Str) ++ numT (i : Int), (" " : Str) ++ a, (" " : Str) ++ numT (j : Int)])
      simp only [join_emp, cs_join, cs_cat, List.map_cons, List.map_nil, List.flatten_cons, List.flatten_nil, List.append_assoc, List.append_nil]
      try rfl
  | bare hi ha =>
    obtain ⟨a, ha, rfl⟩ := ha
    obtain ⟨i, hi, rfl⟩ := hi
    refine last3 F G hu scLText rfl (by decide +kernel) (by decide +kernel) (by decide +kernel) (by decide +kernel) (by decide +kernel) (fun d hd => ?_) (Nat.le_of_ble_eq_true rfl) ?_
    · simp only [List.mem_cons, List.not_mem_nil, or_false] at hd
      rcases hd with rfl | rfl | rfl
      · exact .inl ⟨_, rfl, by decide⟩
      · exact .inr ⟨i, rfl, hi⟩
      · exact .inl ⟨_, rfl, z20 ha⟩
    · show _ = cs (Txt.join Str.empty [("bare " : Str) ++ numT (i : Int), (" " : Str) ++ a])
      simp only [join_emp, cs_join, cs_cat, List.map_cons, List.map_nil, List.flatten_cons, List.flatten_nil, List.append_assoc, List.append_nil]
      try rfl
  | right ha hi =>
    obtain ⟨a, ha, rfl⟩ := ha
    obtain ⟨i, hi, rfl⟩ := hi
    refine last3 F G hu scLText rfl (by decide +kernel) (by decide +kernel) (by decide +kernel) (by decide +kernel) (by decide +kernel) (fun d hd => ?_) (Nat.le_of_ble_eq_true rfl) ?_
    · simp only [List.mem_cons, List.not_mem_nil, or_false] at hd
      rcases hd with rfl | rfl | rfl
      · exact .inl ⟨_, rfl, by decide⟩
      · exact .inl ⟨_, rfl, z20 ha⟩
      · exact .inr ⟨i, rfl, hi⟩
    · show _ = cs (Txt.join Str.empty [("right " : Str) ++ a, (" " : Str) ++ numT (i : Int)])
      simp only [join_emp, cs_join, cs_cat, List.map_cons, List.map_nil, List.flatten_cons, List.flatten_nil, List.append_assoc, List.append_nil]
      try rfl
  | columns hi hs =>
    obtain ⟨i, hi, rfl⟩ := hi
    obtain ⟨ps, rfl, l1, l3, hp⟩ := hs
    have hl : ((((ps.map prD).map fun d => (" " : Str) ++ prT d)).map (·.length)).sum ≤ ((ps.map prD).map fun d => (" " : Str) ++ prT d).length * 24 := sum_le fun x hx => by
      obtain ⟨d, hd, rfl⟩ := List.mem_map.mp hx
      obtain ⟨y, hy, rfl⟩ := List.mem_map.mp hd
      have h1 := pr_len (x := y) ⟨z20 (hp y hy).1, by have := (hp y hy).2; omega⟩
      rw [lenC]
      have e : (" " : Str).length = 1 := rfl
      omega
    have hn : ((ps.map prD).map fun d => (" " : Str) ++ prT d).length = ps.length := by rw [List.length_map, List.length_map]
    have hj := len_join Str.empty ((ps.map prD).map fun d => (" " : Str) ++ prT d)
    have e0 : Str.empty.length = 0 := rfl
    rw [e0] at hj
    refine ld_cons (sd_set 1 (d_ix (i := 0) (d_var 0) (d_int 0) rfl) scLText.nd) ?_
    refine ld_ifno hu (d_var 1) (d_str _) (by decide +kernel) (ld_ifno hu (d_var 1) (d_str _) (by decide +kernel) (ld_ifyes hu (d_var 1) (d_str _) rfl (ld_last (eds_add (eds_add eds_c (eds_of (d_strI G.str (d_ix (i := 1) (d_var 0) (d_int 1) rfl) (lg2 hi)) (n2 hi))) (eds_of (n := 100) (d_joinL (sep := Str.empty) (d_str _) (ED.cast (d_lcT (n := 0) 2 (fun d => .str ((" " : Str) ++ prT d)) scLText.nd (blkOk_by (N := nLText) (sc := defScope sLText) (by decide +kernel)) (d_ix (i := 2) (d_var 0) (d_int 2) rfl) (by rw [List.length_map]; omega) (fun d hd => ?_) (fun _ _ _ _ _ => pg_name (i := 2) scLText.nd rfl (Or.inl rfl))) (show _ = PyData.list (((ps.map prD).map fun d => (" " : Str) ++ prT d).map .str) by rw [List.map_map (g := PyData.str)]; rfl)) (by rw [e0]; omega)) (by omega))).h ?_)))
    · intro s0 H00 C cl fp
      obtain ⟨x, hx, rfl⟩ := List.mem_map.mp hd
      have hz := z20 (hp x hx).1
      have e : (" " : Str) ++ prT (prD x) = (" " : Str) ++ x.1 ++ (" " : Str) ++ numT (x.2 : Int) := by
        refine csi ?_
        show cs ((" " : Str) ++ (x.1 ++ (" " : Str) ++ numT (x.2 : Int))) = _
        simp only [cs_cat, List.append_assoc]
      rw [e]
      exact (eds_add (eds_add (eds_add eds_c (eds_of (d_ix (i := 0) (d_var 2) (d_int 0) rfl) hz)) eds_c) (eds_of (d_strI G.str (d_ix (i := 1) (d_var 2) (d_int 1) rfl) (lg2 (hp x hx).2)) (n2 (hp x hx).2))).h
    · show _ = cs (Txt.join Str.empty [("columns " : Str) ++ numT (i : Int), (" " : Str) ++ Txt.join (" " : Str) ((ps.map prD).map prT)])
      have hne : ((ps.map prD).map prT) ≠ [] := fun e => by
        have := congrArg List.length e
        rw [List.length_map, List.length_map, List.length_nil] at this
        omega
      have e3 : (((ps.map prD).map fun d => (" " : Str) ++ prT d).map cs) = ((ps.map prD).map prT).map fun p => cs (" " : Str) ++ cs p := by
        simp only [List.map_map]
        exact List.map_congr_left fun x _ => cs_cat _ _
      simp only [join_emp, cs_cat, List.map_cons, List.map_nil, List.flatten_cons, List.flatten_nil, List.append_assoc, List.append_nil]
      rw [← flat_join (" " : Str) _ hne, ← e3]
  | function ha hb hs hi =>
    obtain ⟨a, ha, rfl⟩ := ha
    obtain ⟨b, hb, rfl⟩ := hb
    obtain ⟨i, hi, rfl⟩ := hi
    obtain ⟨zs, rfl, _, l2, hz⟩ := hs
    have hn := names_len (zs := zs) (by omega) fun z h => z20 (hz z h)
    have hj := len_join (", " : Str) zs
    refine ld_cons (sd_set 1 (d_ix (i := 0) (d_var 0) (d_int 0) rfl) scLText.nd) ?_
    refine ld_ifno hu (d_var 1) (d_str _) (by decide +kernel) (ld_ifno hu (d_var 1) (d_str _) (by decide +kernel) (ld_ifno hu (d_var 1) (d_str _) (by decide +kernel) (ld_ifret (k := true) (td_cmp o_inS (d_var 1) (d_lit (.tup (.cons (.str _) (.cons (.str _) .nil)) (by decide))) ⟨"function", ["function", "unmade"], rfl, rfl, by decide +kernel⟩) (fun _ => ?_) fun e => by cases e)))
    refine ld_cons (sd_set 3 (eds_add (eds_add (eds_add (eds_add (eds_add (eds_add (eds_add (eds_of (z := "function") (n := 20) (d_var 1) (by decide)) eds_c) (eds_of (d_ix (i := 1) (d_var 0) (d_int 1) rfl) (z20 ha))) eds_c) (eds_of (d_ix (i := 2) (d_var 0) (d_int 2) rfl) (z20 hb))) eds_c) (eds_of (n := 200) (d_joinL (d_str _) (d_listT G.list (d_ix (i := 3) (d_var 0) (d_int 3) rfl)) (by omega)) (by omega))) eds_c).h scLText.nd) ?_
    refine ld_last (eds_add (eds_of (n := 1000) (d_var 3) ?_) (eds_of (n := 200) (d_if (k := true) (td_cmp (o_eqS hu) (d_var 1) (d_str _) ⟨"function", rfl, by decide +kernel⟩) (fun _ => (eds_add eds_c (eds_of (d_strI G.str (d_ix (i := 4) (d_var 0) (d_int 4) rfl) (lg2 hi)) (n2 hi))).h) fun e => by cases e) ?_)).h ?_
    · have := z20 ha; have := z20 hb
      simp only [lenC]
      show 8 + 1 + a.length + 1 + b.length + 2 + _ + 1 ≤ 1000
      omega
    · rw [lenC]
      have := n2 hi
      show 1 + _ ≤ 200
      omega
    · show _ = cs (Txt.join Str.empty [("function " : Str) ++ a, ("." : Str) ++ b, (" " : Str) ++ rowT (zs.map .str), (" " : Str) ++ numT (i : Int)])
      unfold rowT
      rw [sv_map]
      simp only [join_emp, cs_cat, List.map_cons, List.map_nil, List.flatten_cons, List.flatten_nil, List.append_assoc, List.append_nil]
      try rfl
  | unmade ha hb hs =>
    obtain ⟨a, ha, rfl⟩ := ha
    obtain ⟨b, hb, rfl⟩ := hb
    obtain ⟨zs, rfl, _, l2, hz⟩ := hs
    have hn := names_len (zs := zs) (by omega) fun z h => z20 (hz z h)
    have hj := len_join (", " : Str) zs
    refine ld_cons (sd_set 1 (d_ix (i := 0) (d_var 0) (d_int 0) rfl) scLText.nd) ?_
    refine ld_ifno hu (d_var 1) (d_str _) (by decide +kernel) (ld_ifno hu (d_var 1) (d_str _) (by decide +kernel) (ld_ifno hu (d_var 1) (d_str _) (by decide +kernel) (ld_ifret (k := true) (td_cmp o_inS (d_var 1) (d_lit (.tup (.cons (.str _) (.cons (.str _) .nil)) (by decide))) ⟨"unmade", ["function", "unmade"], rfl, rfl, by decide +kernel⟩) (fun _ => ?_) fun e => by cases e)))
    refine ld_cons (sd_set 3 (eds_add (eds_add (eds_add (eds_add (eds_add (eds_add (eds_add (eds_of (z := "unmade") (n := 20) (d_var 1) (by decide)) eds_c) (eds_of (d_ix (i := 1) (d_var 0) (d_int 1) rfl) (z20 ha))) eds_c) (eds_of (d_ix (i := 2) (d_var 0) (d_int 2) rfl) (z20 hb))) eds_c) (eds_of (n := 200) (d_joinL (d_str _) (d_listT G.list (d_ix (i := 3) (d_var 0) (d_int 3) rfl)) (by omega)) (by omega))) eds_c).h scLText.nd) ?_
    refine ld_last (eds_add (eds_of (n := 1000) (d_var 3) ?_) (eds_of (n := 200) (d_if (k := false) (td_cmp (o_eqS hu) (d_var 1) (d_str _) ⟨"function", rfl, by decide +kernel⟩) (fun e => by cases e) fun _ => d_str _) (by decide))).h ?_
    · have := z20 ha; have := z20 hb
      simp only [lenC]
      show 6 + 1 + a.length + 1 + b.length + 2 + _ + 1 ≤ 1000
      omega
    · show _ = cs (Txt.join Str.empty [("unmade " : Str) ++ a, ("." : Str) ++ b, (" " : Str) ++ rowT (zs.map .str)])
      unfold rowT
      rw [sv_map]
      simp only [join_emp, cs_cat, List.map_cons, List.map_nil, List.flatten_cons, List.flatten_nil, List.append_assoc, List.append_nil]
      try rfl
  | rule ha hi hr2 =>
    obtain ⟨a, ha, rfl⟩ := ha
    obtain ⟨i, hi, rfl⟩ := hi
    refine ld_cons (sd_set 1 (d_ix (i := 0) (d_var 0) (d_int 0) rfl) scLText.nd) ?_
    refine ld_ifno hu (d_var 1) (d_str _) (by decide +kernel) (ld_ifno hu (d_var 1) (d_str _) (by decide +kernel) (ld_ifno hu (d_var 1) (d_str _) (by decide +kernel) (ld_ifret (k := false) (td_cmp o_inS (d_var 1) (d_lit (.tup (.cons (.str _) (.cons (.str _) .nil)) (by decide))) ⟨"rule", ["function", "unmade"], rfl, rfl, by decide +kernel⟩) (fun e => by cases e) fun _ => ld_ifyes hu (d_var 1) (d_str _) rfl ?_)))
    have hlen : (("rule " : Str) ++ a ++ (" " : Str) ++ numT (i : Int) ++ (" " : Str)).length ≤ 100 := by
      have := z20 ha; have := n2 hi
      simp only [lenC]
      show 5 + a.length + 1 + _ + 1 ≤ 100
      omega
    refine ld_cons (sd_set 3 (eds_add (eds_add (eds_add (eds_add eds_c (eds_of (d_ix (i := 1) (d_var 0) (d_int 1) rfl) (z20 ha))) eds_c) (eds_of (d_strI G.str (d_ix (i := 2) (d_var 0) (d_int 2) rfl) (lg2 hi)) (n2 hi))) eds_c).h scLText.nd) ?_
    rcases hr2 with rfl | ⟨m, v, hm, ⟨zs, rfl, _, l3, _, hz⟩, rfl⟩
    · refine ld_ifret (k := true) (td_isN (d := .none) (d_ix (i := 3) (d_var 0) (d_int 3) rfl)) (fun _ => ld_last (eds_add (eds_of (d_var 3) hlen) eds_c).h ?_) fun e => by cases e
      show _ = cs (Txt.join Str.empty [("rule " : Str) ++ a, (" " : Str) ++ numT (i : Int), (" " : Str) ++ ("none" : Str)])
      simp only [join_emp, cs_cat, List.map_cons, List.map_nil, List.flatten_cons, List.flatten_nil, List.append_assoc, List.append_nil]
      try rfl
    · have hz3 : ∀ z ∈ zs, z.length ≤ 20 := fun z h => by have := wPool_len z (hz z h); omega
      have hv := vals_len (zs := zs) (by omega) hz3
      have hj := len_join (", " : Str) (zs.map quoT)
      refine ld_ifret (k := false) (td_isN (d := .tuple [.int (m : Int), .tuple (zs.map .str)]) (d_ix (i := 3) (d_var 0) (d_int 3) rfl)) (fun e => by cases e) fun _ => ld_last (eds_add (eds_add (eds_add (eds_add (eds_of (d_var 3) hlen) (eds_of (d_strI G.str (d_ix (i := 0) (d_ix (i := 3) (d_var 0) (d_int 3) rfl) (d_int 0) rfl) (lg2 hm)) (n2 hm))) eds_c) (eds_of (n := 300) (d_joinL (zs := zs.map quoT) (d_str _) (ED.cast (d_lcT (n := 0) 4 (fun d => .str (quoT (sv d))) scLText.nd (blkOk_by (N := nLText) (sc := defScope sLText) (by decide +kernel)) (d_ix (i := 1) (d_ix (i := 3) (d_var 0) (d_int 3) rfl) (d_int 1) rfl) (by rw [List.length_map]; omega) (fun d hd => ?_) (fun _ _ _ _ _ => pg_name (i := 4) scLText.nd rfl (Or.inl rfl))) ?_) (by omega)) (by omega))) eds_c).h ?_
      · intro s0 H00 C cl fp
        obtain ⟨z, hz', rfl⟩ := List.mem_map.mp hd
        exact (eds_add (eds_add eds_c (eds_of (d_var 4) (hz3 z hz'))) eds_c).h
      · rw [List.map_map, List.map_map]; rfl
      · show _ = cs (Txt.join Str.empty [("rule " : Str) ++ a, (" " : Str) ++ numT (i : Int), (" " : Str) ++ (numT (m : Int) ++ (" " : Str) ++ valsT (zs.map .str))])
        unfold valsT
        rw [vals_map]
        simp only [join_emp, cs_cat, List.map_cons, List.map_nil, List.flatten_cons, List.flatten_nil, List.append_assoc, List.append_nil]
        try rfl
end
end K86

namespace K86
open PySem PySem.Spec PyProof.Rows L2 My
/-! ### unlike entries have unlike texts -/
def Hd (P : Nat → Bool) (t : Cs) : Prop := ∀ c, t.head? = some c → P c = false
theorem hd_nil {P : Nat → Bool} : Hd P [] := fun c e => by cases e
theorem hd_cons {P : Nat → Bool} {c : Nat} {t : Cs} (h : P c = false) : Hd P (c :: t) := fun d e => by cases e; exact h
theorem span {P : Nat → Bool} : ∀ (z z' : Cs) {t t' : Cs}, z.all P = true → z'.all P = true → Hd P t → Hd P t' → z ++ t = z' ++ t' → z = z' ∧ t = t'
  | [], [], _, _, _, _, _, _, e => ⟨rfl, e⟩
  | [], c :: z', t, t', _, h', ht, _, e => by
    have e' : t = c :: (z' ++ t') := e
    have := ht c (by rw [e']; rfl)
    rw [List.all_cons, Bool.and_eq_true] at h'
    rw [h'.1] at this
    cases this
  | c :: z, [], t, t', h, _, _, ht', e => by
    have e' : c :: (z ++ t) = t' := e
    have := ht' c (by rw [← e']; rfl)
    rw [List.all_cons, Bool.and_eq_true] at h
    rw [h.1] at this
    cases this
  | c :: z, c' :: z', t, t', h, h', ht, ht', e => by
    have e' : c :: (z ++ t) = c' :: (z' ++ t') := e
    injection e' with e1 e2
    rw [List.all_cons, Bool.and_eq_true] at h h'
    obtain ⟨i1, i2⟩ := span z z' h.2 h'.2 ht ht' e2
    exact ⟨by rw [e1, i1], i2⟩
def digB (c : Nat) : Bool := decide (48 ≤ c) && decide (c ≤ 57)
theorem nyms_low : ∀ z ∈ nyms, (cs z).all lowC = true := by decide +kernel
theorem wPool_low : ∀ z ∈ wPool, (cs z).all lowC = true := by decide +kernel
theorem num_dig : ∀ k < 12, (cs (numT (k : Nat))).all digB = true := by decide +kernel
theorem num_inj : ∀ j < 12, ∀ k < 12, cs (numT (j : Nat)) = cs (numT (k : Nat)) → j = k := by decide +kernel
theorem nm_span {a b : PyData} {t t' : Cs} (ha : Nm a) (hb : Nm b) (ht : Hd lowC t) (ht' : Hd lowC t') (e : cs (sv a) ++ t = cs (sv b) ++ t') : a = b ∧ t = t' := by
  obtain ⟨x, hx, rfl⟩ := ha
  obtain ⟨y, hy, rfl⟩ := hb
  obtain ⟨i, j⟩ := span _ _ (nyms_low x hx) (nyms_low y hy) ht ht' e
  exact ⟨by rw [show x = y from csi i], j⟩
theorem ni_span {a b : PyData} {t t' : Cs} (ha : Ni a) (hb : Ni b) (ht : Hd digB t) (ht' : Hd digB t') (e : cs (numT (iv a)) ++ t = cs (numT (iv b)) ++ t') : a = b ∧ t = t' := by
  obtain ⟨x, hx, rfl⟩ := ha
  obtain ⟨y, hy, rfl⟩ := hb
  obtain ⟨i, j⟩ := span _ _ (num_dig x hx) (num_dig y hy) ht ht' e
  exact ⟨by rw [num_inj x hx y hy i], j⟩
theorem nm_end {a b : PyData} (ha : Nm a) (hb : Nm b) (e : cs (sv a) = cs (sv b)) : a = b := (nm_span ha hb hd_nil hd_nil (by rw [e])).1
theorem ni_end {a b : PyData} (ha : Ni a) (hb : Ni b) (e : cs (numT (iv a)) = cs (numT (iv b))) : a = b := (ni_span ha hb hd_nil hd_nil (by rw [e])).1
/-- more words behind a comma, to the closing sign -/
def tailC (pre post : Cs) (l : List Str) (r : Cs) : Cs := (l.map fun z => 44 :: 32 :: (pre ++ cs z ++ post)).flatten ++ 41 :: r
theorem tail_inj {post : Cs} {c0 : Nat} (pre : Cs) (hp : post = [] ∨ ∃ u, post = c0 :: u ∧ lowC c0 = false) : ∀ (l l' : List Str) {r r' : Cs}, (∀ z ∈ l, (cs z).all lowC = true) → (∀ z ∈ l', (cs z).all lowC = true) → tailC pre post l r = tailC pre post l' r' → l = l' ∧ r = r'
  | [], [], r, r', _, _, e => by
    have e' : 41 :: r = 41 :: r' := e
    injection e' with _ e'
    exact ⟨rfl, e'⟩
  | [], z :: l', r, r', _, _, e => by
    have e' : 41 :: r = 44 :: 32 :: ((pre ++ cs z ++ post) ++ (l'.map fun z => 44 :: 32 :: (pre ++ cs z ++ post)).flatten ++ 41 :: r') := by
      rw [show 41 :: r = tailC pre post [] r from rfl, e]
      simp [tailC]
    injection e' with e' _
    cases e'
  | z :: l, [], r, r', _, _, e => by
    have e' : 44 :: 32 :: ((pre ++ cs z ++ post) ++ (l.map fun z => 44 :: 32 :: (pre ++ cs z ++ post)).flatten ++ 41 :: r) = 41 :: r' := by
      rw [show 41 :: r' = tailC pre post [] r' from rfl, ← e]
      simp [tailC]
    injection e' with e' _
    cases e'
  | z :: l, z' :: l', r, r', h, h', e => by
    have e1 : ∀ (z : Str) (l : List Str) (r : Cs), tailC pre post (z :: l) r = 44 :: 32 :: (pre ++ (cs z ++ (post ++ tailC pre post l r))) := fun z l r => by simp [tailC]
    rw [e1, e1] at e
    injection e with _ e
    injection e with _ e
    have e2 := List.append_cancel_left e
    have hd : ∀ (l : List Str) (r : Cs), Hd lowC (post ++ tailC pre post l r) := fun l r => by
      rcases hp with rfl | ⟨u, rfl, hu⟩
      · cases l with
        | nil => exact hd_cons (by decide +kernel)
        | cons z l => rw [List.nil_append, e1]; exact hd_cons (by decide +kernel)
      · exact hd_cons hu
    obtain ⟨i1, i2⟩ := span _ _ (h z List.mem_cons_self) (h' z' List.mem_cons_self) (hd _ _) (hd _ _) e2
    obtain ⟨i3, i4⟩ := tail_inj pre hp l l' (fun y hy => h y (List.mem_cons_of_mem _ hy)) (fun y hy => h' y (List.mem_cons_of_mem _ hy)) (List.append_cancel_left i2)
    exact ⟨by rw [csi i1, i3], i4⟩
theorem row_cs (zs : List Str) (hz : zs ≠ []) (r : Cs) : ∃ z l, zs = z :: l ∧ cs (rowT (zs.map .str)) ++ r = 40 :: (cs z ++ tailC [] [] l r) := by
  cases zs with
  | nil => exact absurd rfl hz
  | cons z l =>
    refine ⟨z, l, rfl, ?_⟩
    unfold rowT
    rw [sv_map, cs_cat, cs_cat, cs_join]
    simp [tailC, show cs ("(" : Str) = [40] from rfl, show cs (")" : Str) = [41] from rfl, show cs (", " : Str) = [44, 32] from rfl]
theorem vals_cs (zs : List Str) (hz : zs ≠ []) (r : Cs) : ∃ z l, zs = z :: l ∧ cs (valsT (zs.map .str)) ++ r = 40 :: 39 :: (cs z ++ (39 :: tailC [39] [39] l r)) := by
  cases zs with
  | nil => exact absurd rfl hz
  | cons z l =>
    refine ⟨z, l, rfl, ?_⟩
    unfold valsT
    have e : ((z :: l).map PyData.str).map (fun d => quoT (sv d)) = quoT z :: l.map quoT := by rw [vals_map]; rfl
    rw [e, cs_cat, cs_cat, cs_join]
    have q : ∀ z, cs (quoT z) = 39 :: (cs z ++ [39]) := fun z => by unfold quoT; rw [cs_cat, cs_cat]; rfl
    simp [tailC, q, show cs ("(" : Str) = [40] from rfl, show cs (")" : Str) = [41] from rfl, show cs (", " : Str) = [44, 32] from rfl, Function.comp_def]
theorem so_span {a b : PyData} {t t' : Cs} (ha : SoD a) (hb : SoD b) (e : cs (rowT (els a)) ++ t = cs (rowT (els b)) ++ t') : a = b ∧ t = t' := by
  obtain ⟨zs, rfl, l1, _, hz⟩ := ha
  obtain ⟨ys, rfl, m1, _, hy⟩ := hb
  obtain ⟨z, l, rfl, e1⟩ := row_cs zs (fun e => by rw [e] at l1; cases l1) t
  obtain ⟨y, m, rfl, e2⟩ := row_cs ys (fun e => by rw [e] at m1; cases m1) t'
  have e' : 40 :: (cs z ++ tailC [] [] l t) = 40 :: (cs y ++ tailC [] [] m t') := by rw [← e1, ← e2]; exact e
  injection e' with _ e'
  have hd : ∀ (l : List Str) (r : Cs), Hd lowC (tailC [] [] l r) := fun l r => by
    cases l with
    | nil => exact hd_cons (by decide +kernel)
    | cons z l => rw [show tailC [] [] (z :: l) r = 44 :: 32 :: (cs z ++ tailC [] [] l r) by simp [tailC]]; exact hd_cons (by decide +kernel)
  have hl : ∀ z ∈ l, (cs z).all lowC = true := fun x hx => nyms_low x (hz x (List.mem_cons_of_mem _ hx))
  have hm : ∀ z ∈ m, (cs z).all lowC = true := fun x hx => nyms_low x (hy x (List.mem_cons_of_mem _ hx))
  obtain ⟨i1, i2⟩ := span _ _ (nyms_low z (hz z List.mem_cons_self)) (nyms_low y (hy y List.mem_cons_self)) (hd _ _) (hd _ _) e'
  obtain ⟨i3, i4⟩ := tail_inj (c0 := 0) [] (.inl rfl) l m hl hm i2
  exact ⟨by rw [csi i1, i3], i4⟩
theorem wor_end {a b : PyData} (ha : Wor a) (hb : Wor b) (e : cs (valsT (els a)) = cs (valsT (els b))) : a = b := by
  obtain ⟨zs, rfl, l1, _, _, hz⟩ := ha
  obtain ⟨ys, rfl, m1, _, _, hy⟩ := hb
  obtain ⟨z, l, rfl, e1⟩ := vals_cs zs (fun e => by rw [e] at l1; cases l1) []
  obtain ⟨y, m, rfl, e2⟩ := vals_cs ys (fun e => by rw [e] at m1; cases m1) []
  have e' : 40 :: 39 :: (cs z ++ (39 :: tailC [39] [39] l [])) = 40 :: 39 :: (cs y ++ (39 :: tailC [39] [39] m [])) := by rw [← e1, ← e2]; exact congrArg (· ++ []) e
  injection e' with _ e'
  injection e' with _ e'
  have hl : ∀ z ∈ l, (cs z).all lowC = true := fun x hx => wPool_low x (hz x (List.mem_cons_of_mem _ hx))
  have hm : ∀ z ∈ m, (cs z).all lowC = true := fun x hx => wPool_low x (hy x (List.mem_cons_of_mem _ hx))
  obtain ⟨i1, i2⟩ := span _ _ (wPool_low z (hz z List.mem_cons_self)) (wPool_low y (hy y List.mem_cons_self)) (hd_cons (by decide +kernel)) (hd_cons (by decide +kernel)) e'
  injection i2 with _ i2
  obtain ⟨i3, _⟩ := tail_inj (c0 := 39) [39] (.inr ⟨[], rfl, by decide +kernel⟩) l m hl hm i2
  rw [csi i1, i3]
def morePs (l : List (Str × Nat)) : Cs := (l.map fun x => 32 :: (cs x.1 ++ 32 :: cs (numT (x.2 : Int)))).flatten
theorem more_hd {P : Nat → Bool} (h : P 32 = false) (l : List (Str × Nat)) : Hd P (morePs l) := by
  cases l with
  | nil => exact hd_nil
  | cons x l => exact hd_cons h
theorem more_inj : ∀ (l l' : List (Str × Nat)), (∀ x ∈ l, x.1 ∈ nyms ∧ x.2 < 12) → (∀ x ∈ l', x.1 ∈ nyms ∧ x.2 < 12) → morePs l = morePs l' → l = l'
  | [], [], _, _, _ => rfl
  | [], _ :: _, _, _, e => by cases e
  | _ :: _, [], _, _, e => by cases e
  | x :: l, y :: m, h, h', e => by
    have e1 : ∀ (x : Str × Nat) (l : List (Str × Nat)), morePs (x :: l) = 32 :: (cs x.1 ++ (32 :: (cs (numT (x.2 : Int)) ++ morePs l))) := fun x l => by simp [morePs]
    rw [e1, e1] at e
    injection e with _ e
    have hx := h x List.mem_cons_self
    have hy := h' y List.mem_cons_self
    obtain ⟨i1, i2⟩ := span _ _ (nyms_low _ hx.1) (nyms_low _ hy.1) (hd_cons (by decide +kernel)) (hd_cons (by decide +kernel)) e
    injection i2 with _ i2
    obtain ⟨i3, i4⟩ := span _ _ (num_dig _ hx.2) (num_dig _ hy.2) (more_hd (by decide +kernel) l) (more_hd (by decide +kernel) m) i2
    have i5 := more_inj l m (fun z hz => h z (List.mem_cons_of_mem _ hz)) (fun z hz => h' z (List.mem_cons_of_mem _ hz)) i4
    rw [i5]
    congr 1
    exact Prod.ext (csi i1) (num_inj _ hx.2 _ hy.2 i3)
theorem pairs_cs (ps : List (Str × Nat)) (hne : ps ≠ []) : 32 :: cs (pairsT (ps.map prD)) = morePs ps := by
  have hne2 : ((ps.map prD).map prT) ≠ [] := fun e => hne (by
    have := congrArg List.length e
    rw [List.length_map, List.length_map, List.length_nil] at this
    exact List.length_eq_zero_iff.mp this)
  have := flat_join (" " : Str) _ hne2
  show [32] ++ cs (Txt.join (" " : Str) ((ps.map prD).map prT)) = _
  rw [show ([32] : Cs) = cs (" " : Str) from rfl, ← this]
  unfold morePs
  simp only [List.map_map]
  congr 1
  refine List.map_congr_left fun x _ => ?_
  show cs (" " : Str) ++ cs (x.1 ++ (" " : Str) ++ numT (x.2 : Int)) = _
  rw [cs_cat, cs_cat]
  simp [show cs (" " : Str) = [32] from rfl]
theorem ps_end {a b : PyData} (ha : PsD a) (hb : PsD b) (e : cs (pairsT (els a)) = cs (pairsT (els b))) : a = b := by
  obtain ⟨ps, rfl, l1, _, hp⟩ := ha
  obtain ⟨qs, rfl, m1, _, hq⟩ := hb
  have e1 := pairs_cs ps (fun e => by rw [e] at l1; cases l1)
  have e2 := pairs_cs qs (fun e => by rw [e] at m1; cases m1)
  have e3 : morePs ps = morePs qs := by rw [← e1, ← e2]; exact congrArg (List.cons 32) e
  rw [more_inj ps qs hp hq e3]
theorem ru_end {a b : PyData} (ha : RuD a) (hb : RuD b) (e : cs (ruleT a) = cs (ruleT b)) : a = b := by
  have e1 : ∀ (m : Nat) (v : PyData), cs (ruleT (.tuple [.int (m : Int), v])) = cs (numT (m : Int)) ++ 32 :: cs (valsT (els v)) := fun m v => by
    show cs (numT (m : Int) ++ (" " : Str) ++ valsT (els v)) = _
    rw [cs_cat, cs_cat]
    simp [show cs (" " : Str) = [32] from rfl]
  have e0 : cs (ruleT .none) = 110 :: [111, 110, 101] := by decide +kernel
  have hd9 : ∀ (m : Nat) (t : Cs), m < 12 → cs (numT (m : Int)) ++ t ≠ 110 :: [111, 110, 101] := fun m t hm e => by
    have h1 : ∀ k < 12, (cs (numT (k : Nat))) ≠ [] ∧ (cs (numT (k : Nat))).head? ≠ some 110 := by decide +kernel
    obtain ⟨h2, h3⟩ := h1 m hm
    cases q : cs (numT (m : Int)) with
    | nil => exact h2 q
    | cons c r =>
      rw [q] at e h3
      injection e with e _
      exact h3 (by rw [e]; rfl)
  rcases ha with rfl | ⟨m, v, hm, hv, rfl⟩ <;> rcases hb with rfl | ⟨m', v', hm', hv', rfl⟩
  · rfl
  · rw [e0, e1] at e
    exact absurd e.symm (hd9 m' _ hm')
  · rw [e0, e1] at e
    exact absurd e (hd9 m _ hm)
  · rw [e1, e1] at e
    obtain ⟨i1, i2⟩ := span _ _ (num_dig m hm) (num_dig m' hm') (hd_cons (by decide +kernel)) (hd_cons (by decide +kernel)) e
    injection i2 with _ i2
    rw [num_inj m hm m' hm' i1, wor_end hv hv' i2]
/-- the texts, sign by sign -/
inductive Tx : PyData → Cs → Prop
  | at' {a b i : PyData} (ha : Nm a) (hb : Nm b) (hi : Ni i) : Tx (.tuple [.str "at", a, b, i]) (97 :: 116 :: 32 :: (cs (sv a) ++ (46 :: (cs (sv b) ++ (32 :: cs (numT (iv i)))))))
  | free {a b : PyData} (ha : Nm a) (hb : Nm b) : Tx (.tuple [.str "free", a, b]) (102 :: 114 :: 101 :: 101 :: 32 :: (cs (sv a) ++ (46 :: cs (sv b))))
  | column {i a j : PyData} (hi : Ni i) (ha : Nm a) (hj : Ni j) : Tx (.tuple [.str "column", i, a, j]) (99 :: 111 :: 108 :: 117 :: 109 :: 110 :: 32 :: (cs (numT (iv i)) ++ (32 :: (cs (sv a) ++ (32 :: cs (numT (iv j)))))))
  | bare {i a : PyData} (hi : Ni i) (ha : Nm a) : Tx (.tuple [.str "bare", i, a]) (98 :: 97 :: 114 :: 101 :: 32 :: (cs (numT (iv i)) ++ (32 :: cs (sv a))))
  | columns {i s : PyData} (hi : Ni i) (hs : PsD s) : Tx (.tuple [.str "columns", i, s]) (99 :: 111 :: 108 :: 117 :: 109 :: 110 :: 115 :: 32 :: (cs (numT (iv i)) ++ (32 :: cs (pairsT (els s)))))
  | function {a b s i : PyData} (ha : Nm a) (hb : Nm b) (hs : SoD s) (hi : Ni i) : Tx (.tuple [.str "function", a, b, s, i]) (102 :: 117 :: 110 :: 99 :: 116 :: 105 :: 111 :: 110 :: 32 :: (cs (sv a) ++ (46 :: (cs (sv b) ++ (32 :: (cs (rowT (els s)) ++ (32 :: cs (numT (iv i)))))))))
  | unmade {a b s : PyData} (ha : Nm a) (hb : Nm b) (hs : SoD s) : Tx (.tuple [.str "unmade", a, b, s]) (117 :: 110 :: 109 :: 97 :: 100 :: 101 :: 32 :: (cs (sv a) ++ (46 :: (cs (sv b) ++ (32 :: cs (rowT (els s)))))))
  | right {a i : PyData} (ha : Nm a) (hi : Ni i) : Tx (.tuple [.str "right", a, i]) (114 :: 105 :: 103 :: 104 :: 116 :: 32 :: (cs (sv a) ++ (32 :: cs (numT (iv i)))))
  | rule {a i r : PyData} (ha : Nm a) (hi : Ni i) (hr : RuD r) : Tx (.tuple [.str "rule", a, i, r]) (114 :: 117 :: 108 :: 101 :: 32 :: (cs (sv a) ++ (32 :: (cs (numT (iv i)) ++ (32 :: cs (ruleT r))))))
theorem tx_of {e : PyData} (h : Ent e) : Tx e (cs (entT e)) := by
  have k1 : cs (" " : Str) = [32] := rfl
  have k2 : cs ("." : Str) = [46] := rfl
  cases h with
  | at' ha hb hi =>
    refine (?_ : _ = cs (entT _)) ▸ Tx.at' ha hb hi
    show _ = cs (Txt.join Str.empty [("at " : Str) ++ sv _, ("." : Str) ++ sv _, (" " : Str) ++ numT (iv _)])
    simp [join_emp, cs_cat, k1, k2, show cs ("at " : Str) = [97, 116, 32] from rfl]
  | free ha hb =>
    refine (?_ : _ = cs (entT _)) ▸ Tx.free ha hb
    show _ = cs (Txt.join Str.empty [("free " : Str) ++ sv _, ("." : Str) ++ sv _])
    simp [join_emp, cs_cat, k1, k2, show cs ("free " : Str) = [102, 114, 101, 101, 32] from rfl]
  | column hi ha hj =>
    refine (?_ : _ = cs (entT _)) ▸ Tx.column hi ha hj
    show _ = cs (Txt.join Str.empty [("column " : Str) ++ numT (iv _), (" " : Str) ++ sv _, (" " : Str) ++ numT (iv _)])
    simp [join_emp, cs_cat, k1, k2, show cs ("column " : Str) = [99, 111, 108, 117, 109, 110, 32] from rfl]
  | bare hi ha =>
    refine (?_ : _ = cs (entT _)) ▸ Tx.bare hi ha
    show _ = cs (Txt.join Str.empty [("bare " : Str) ++ numT (iv _), (" " : Str) ++ sv _])
    simp [join_emp, cs_cat, k1, k2, show cs ("bare " : Str) = [98, 97, 114, 101, 32] from rfl]
  | columns hi hs =>
    refine (?_ : _ = cs (entT _)) ▸ Tx.columns hi hs
    show _ = cs (Txt.join Str.empty [("columns " : Str) ++ numT (iv _), (" " : Str) ++ pairsT (els _)])
    simp [join_emp, cs_cat, k1, k2, show cs ("columns " : Str) = [99, 111, 108, 117, 109, 110, 115, 32] from rfl]
  | function ha hb hs hi =>
    refine (?_ : _ = cs (entT _)) ▸ Tx.function ha hb hs hi
    show _ = cs (Txt.join Str.empty [("function " : Str) ++ sv _, ("." : Str) ++ sv _, (" " : Str) ++ rowT (els _), (" " : Str) ++ numT (iv _)])
    simp [join_emp, cs_cat, k1, k2, show cs ("function " : Str) = [102, 117, 110, 99, 116, 105, 111, 110, 32] from rfl]
  | unmade ha hb hs =>
    refine (?_ : _ = cs (entT _)) ▸ Tx.unmade ha hb hs
    show _ = cs (Txt.join Str.empty [("unmade " : Str) ++ sv _, ("." : Str) ++ sv _, (" " : Str) ++ rowT (els _)])
    simp [join_emp, cs_cat, k1, k2, show cs ("unmade " : Str) = [117, 110, 109, 97, 100, 101, 32] from rfl]
  | right ha hi =>
    refine (?_ : _ = cs (entT _)) ▸ Tx.right ha hi
    show _ = cs (Txt.join Str.empty [("right " : Str) ++ sv _, (" " : Str) ++ numT (iv _)])
    simp [join_emp, cs_cat, k1, k2, show cs ("right " : Str) = [114, 105, 103, 104, 116, 32] from rfl]
  | rule ha hi hr =>
    refine (?_ : _ = cs (entT _)) ▸ Tx.rule ha hi hr
    show _ = cs (Txt.join Str.empty [("rule " : Str) ++ sv _, (" " : Str) ++ numT (iv _), (" " : Str) ++ ruleT _])
    simp [join_emp, cs_cat, k1, k2, show cs ("rule " : Str) = [114, 117, 108, 101, 32] from rfl]
theorem lo46 : lowC 46 = false := by decide +kernel
theorem lo32 : lowC 32 = false := by decide +kernel
theorem di32 : digB 32 = false := by decide +kernel
theorem tx_inj {e e' : PyData} {t t' : Cs} (h : Tx e t) (h' : Tx e' t') (q : t = t') : e = e' := by
  cases h <;> cases h' <;> first
    | (exfalso; simp at q; done)
    | skip
  all_goals simp only [List.cons.injEq, true_and] at q
  · rename_i a b i ha hb hi a' b' i' ha' hb' hi'
    obtain ⟨rfl, q1⟩ := nm_span ha ha' (hd_cons lo46) (hd_cons lo46) q
    simp only [List.cons.injEq, true_and] at q1
    obtain ⟨rfl, q2⟩ := nm_span hb hb' (hd_cons lo32) (hd_cons lo32) q1
    simp only [List.cons.injEq, true_and] at q2
    rw [ni_end hi hi' q2]
  · rename_i a b ha hb a' b' ha' hb'
    obtain ⟨rfl, q1⟩ := nm_span ha ha' (hd_cons lo46) (hd_cons lo46) q
    simp only [List.cons.injEq, true_and] at q1
    rw [nm_end hb hb' q1]
  · rename_i i a j hi ha hj i' a' j' hi' ha' hj'
    obtain ⟨rfl, q1⟩ := ni_span hi hi' (hd_cons di32) (hd_cons di32) q
    simp only [List.cons.injEq, true_and] at q1
    obtain ⟨rfl, q2⟩ := nm_span ha ha' (hd_cons lo32) (hd_cons lo32) q1
    simp only [List.cons.injEq, true_and] at q2
    rw [ni_end hj hj' q2]
  · rename_i i a hi ha i' a' hi' ha'
    obtain ⟨rfl, q1⟩ := ni_span hi hi' (hd_cons di32) (hd_cons di32) q
    simp only [List.cons.injEq, true_and] at q1
    rw [nm_end ha ha' q1]
  · rename_i i s hi hs i' s' hi' hs'
    obtain ⟨rfl, q1⟩ := ni_span hi hi' (hd_cons di32) (hd_cons di32) q
    simp only [List.cons.injEq, true_and] at q1
    rw [ps_end hs hs' q1]
  · rename_i a b s i ha hb hs hi a' b' s' i' ha' hb' hs' hi'
    obtain ⟨rfl, q1⟩ := nm_span ha ha' (hd_cons lo46) (hd_cons lo46) q
    simp only [List.cons.injEq, true_and] at q1
    obtain ⟨rfl, q2⟩ := nm_span hb hb' (hd_cons lo32) (hd_cons lo32) q1
    simp only [List.cons.injEq, true_and] at q2
    obtain ⟨rfl, q3⟩ := so_span hs hs' q2
    simp only [List.cons.injEq, true_and] at q3
    rw [ni_end hi hi' q3]
  · rename_i a b s ha hb hs a' b' s' ha' hb' hs'
    obtain ⟨rfl, q1⟩ := nm_span ha ha' (hd_cons lo46) (hd_cons lo46) q
    simp only [List.cons.injEq, true_and] at q1
    obtain ⟨rfl, q2⟩ := nm_span hb hb' (hd_cons lo32) (hd_cons lo32) q1
    simp only [List.cons.injEq, true_and] at q2
    obtain ⟨rfl, _⟩ := so_span (t := []) (t' := []) hs hs' (by rw [q2])
    rfl
  · rename_i a i ha hi a' i' ha' hi'
    obtain ⟨rfl, q1⟩ := nm_span ha ha' (hd_cons lo32) (hd_cons lo32) q
    simp only [List.cons.injEq, true_and] at q1
    rw [ni_end hi hi' q1]
  · rename_i a i r ha hi hr a' i' r' ha' hi' hr'
    obtain ⟨rfl, q1⟩ := nm_span ha ha' (hd_cons lo32) (hd_cons lo32) q
    simp only [List.cons.injEq, true_and] at q1
    obtain ⟨rfl, q2⟩ := ni_span hi hi' (hd_cons di32) (hd_cons di32) q1
    simp only [List.cons.injEq, true_and] at q2
    rw [ru_end hr hr' q2]
theorem ent_inj {e e' : PyData} (h : Ent e) (h' : Ent e') (q : entT e = entT e') : e = e' := tx_inj (tx_of h) (tx_of h') (congrArg cs q)
end K86

namespace My
open PySem PySem.Spec PyProof.Rows L2
/-! ### what is read has the forms, and is not big -/
def Fz (n k : Nat) (d : PyData) : Prop := okE d = true ∧ szE d ≤ n ∧ d.depth ≤ k
def FzL (n k : Nat) (ds : List PyData) : Prop := okEs ds = true ∧ szEs ds ≤ n ∧ PyData.depthAll ds ≤ k
theorem Fz.mono {n k m j : Nat} {d : PyData} (h : Fz n k d) (a : n ≤ m) (b : k ≤ j) : Fz m j d := ⟨h.1, Nat.le_trans h.2.1 a, Nat.le_trans h.2.2 b⟩
theorem FzL.nil {k : Nat} : FzL 0 k [] := ⟨rfl, Nat.le_refl _, Nat.zero_le _⟩
theorem Fz.cons {a b k : Nat} {d : PyData} {ds : List PyData} (h : Fz a k d) (hs : FzL b k ds) : FzL (a + 2 + b) k (d :: ds) := by
  refine ⟨?_, ?_, ?_⟩
  · show (okE d && okEs ds) = true
    rw [h.1, hs.1]; rfl
  · show szE d + 2 + szEs ds ≤ _
    have := h.2.1
    have := hs.2.1
    omega
  · show max (PyData.depth d) (PyData.depthAll ds) ≤ k
    have h1 : PyData.depth d ≤ k := h.2.2
    have := hs.2.2
    omega
theorem FzL.tup {n k : Nat} {ds : List PyData} (h : FzL n k ds) : Fz (n + 5) (k + 1) (.tuple ds) := ⟨h.1, Nat.add_le_add_right h.2.1 5, Nat.succ_le_succ h.2.2⟩
theorem depthAll_lez {n : Nat} : ∀ {ds : List PyData}, (∀ d ∈ ds, d.depth ≤ n) → PyData.depthAll ds ≤ n
  | [], _ => Nat.zero_le _
  | d :: ds, h => by
    show max (PyData.depth d) (PyData.depthAll ds) ≤ n
    have h1 : PyData.depth d ≤ n := h d List.mem_cons_self
    have := depthAll_lez (ds := ds) fun x hx => h x (List.mem_cons_of_mem _ hx)
    omega
theorem FzL.of {n k m : Nat} : ∀ {ds : List PyData}, ds.length ≤ m → (∀ d ∈ ds, Fz n k d) → FzL (m * (n + 2)) k ds := fun {ds} hl h => by
  refine ⟨okEs_of fun d hd => (h d hd).1, ?_, depthAll_lez fun d hd => (h d hd).2.2⟩
  refine Nat.le_trans ?_ (Nat.mul_le_mul_right (n + 2) hl)
  clear hl
  induction ds with
  | nil => exact Nat.zero_le _
  | cons d ds ih =>
    show szE d + 2 + szEs ds ≤ (ds.length + 1) * (n + 2)
    have h1 := (h d List.mem_cons_self).2.1
    have h2 := ih fun x hx => h x (List.mem_cons_of_mem _ hx)
    rw [Nat.succ_mul]
    omega
theorem Fz.okS {n k : Nat} {d : PyData} (h : Fz n k d) (a : n ≤ 1000000) (b : k ≤ 50) : okS d = true := okS_iff.mpr ⟨h.1, Nat.le_trans h.2.1 a, Nat.le_trans h.2.2 b⟩
theorem fzV {z : Str} {k : Nat} (h : valS z = true) : Fz 85 k (.str z) := by
  obtain ⟨h1, h2⟩ := val_cs h
  have el : (cs z).length = z.length := rfl
  refine ⟨?_, by show 10 * z.length + 5 ≤ 85; omega, Nat.zero_le _⟩
  show (decide (z.length ≤ 1000) && (cs z).all fun c => decide (c < 128)) = true
  rw [decide_eq_true (show z.length ≤ 1000 by omega), Bool.true_and]
  exact List.all_eq_true.mpr fun c hc => decide_eq_true (lowC_3 c (List.all_eq_true.mp h1 c hc))
theorem fzN {d : PyData} {k : Nat} (h : namD d = true) : Fz 85 k d := by
  obtain ⟨z, rfl, hz, _⟩ := namE h
  exact fzV hz
theorem fzO {d : PyData} {k : Nat} (h : nnD d = true) : Fz 85 k d := by
  rcases nnE h with rfl | h
  · exact ⟨rfl, by decide, Nat.zero_le _⟩
  · exact fzN h
theorem fzC {d : PyData} {k : Nat} (h : colD d = true) : Fz 179 (k + 1) d := by
  obtain ⟨a, b, rfl, ha, hb⟩ := colE h
  exact ((fzO ha).cons (k := k) ((fzN hb).cons .nil)).tup.mono (by omega) (by omega)
def zB : Nat → Nat
  | 0 => 179
  | k + 1 => 2 * zB k + 400
theorem zB_ge : ∀ k, 179 ≤ zB k
  | 0 => Nat.le_refl _
  | k + 1 => by have := zB_ge k; show 179 ≤ 2 * zB k + 400; omega
theorem fzW {z : Str} {k : Nat} (h : z.length ≤ 8) (e : okE (.str z) = true) : Fz 85 k (.str z) := ⟨e, by show 10 * z.length + 5 ≤ 85; omega, Nat.zero_le _⟩
theorem fzTm : ∀ (k : Nat) {d : PyData}, (colD d || valD d || callD k d) = true → Fz (zB k) (2 * k + 1) d
  | k, d, h => by
    have hz := zB_ge k
    rw [Bool.or_eq_true, Bool.or_eq_true] at h
    rcases h with (h | h) | h
    · exact (fzC (k := 2 * k) h).mono hz (Nat.le_refl _)
    · obtain ⟨z, rfl, hv⟩ := valE h
      exact (fzV hv).mono (by omega) (Nat.le_refl _)
    · obtain ⟨j, s, n, ts, rfl, rfl, hs, hn, l1, l2, hts⟩ := callE h
      have i : FzL (2 * (zB j + 2)) (2 * j + 1) ts := FzL.of l2 fun t ht => fzTm j (hts t ht)
      have c : Fz 85 (2 * j + 2) (.str "call") := fzW (by decide) (by decide +kernel)
      refine (c.cons ((fzO hs).cons ((fzN hn).cons ((i.tup).cons .nil)))).tup.mono ?_ (by omega)
      show _ ≤ 2 * zB j + 400
      omega
theorem pName_form {r r' : Cs} {d : PyData} (h : pName r = some (d, r')) : namD d = true := by
  unfold pName at h
  split at h
  · rename_i e
    cases h; exact e
  · cases h
theorem pVal_form {r r' : Cs} {d : PyData} (h : pVal r = some (d, r')) : valD d = true := by
  unfold pVal at h
  obtain ⟨r1, _, h⟩ := Option.bind_eq_some_iff.mp h
  split at h
  · rename_i e
    obtain ⟨r2, _, h⟩ := Option.map_eq_some_iff.mp h
    cases h; exact e
  · cases h
theorem pDot_form {r r' : Cs} {a b : PyData} (h : pDot r = some ((a, b), r')) : nnD a = true ∧ namD b = true := by
  unfold pDot at h
  obtain ⟨⟨d, r1⟩, h1, h⟩ := Option.bind_eq_some_iff.mp h
  have hd := pName_form h1
  cases e : tk "." r1 with
  | some r2 =>
    simp only [e] at h
    obtain ⟨⟨u, r3⟩, h3, h4⟩ := Option.map_eq_some_iff.mp h
    cases h4
    refine ⟨?_, pName_form h3⟩
    show (isNone _ || namD _) = true
    rw [hd, Bool.or_true]
  | none =>
    simp only [e] at h
    cases h
    exact ⟨rfl, hd⟩
theorem col_mk {a b : PyData} (ha : nnD a = true) (hb : namD b = true) : colD (.tuple [a, b]) = true := by
  show (true && (nnD a && namD b)) = true
  rw [ha, hb]; rfl
theorem call_mk {k : Nat} {s n : PyData} {ts : List PyData} (hs : nnD s = true) (hn : namD n = true) (l1 : 1 ≤ ts.length) (l2 : ts.length ≤ 2) (h : ∀ t ∈ ts, (colD t || valD t || callD k t) = true) : callD (k + 1) (.tuple [.str "call", s, n, .tuple ts]) = true := by
  show (true && (eqS (.str "call") "call" && nnD s && namD n) && (decide ((1 : Int) ≤ ts.length) && decide ((ts.length : Int) ≤ 2) && ts.all fun x => colD x || valD x || callD k x)) = true
  rw [hs, hn, decide_eq_true (show (1 : Int) ≤ ts.length by omega), decide_eq_true (show (ts.length : Int) ≤ 2 by omega), List.all_eq_true.mpr h]
  decide +kernel
theorem pTerm_form : ∀ {k : Nat} {r r' : Cs} {d : PyData}, pTerm k r = some (d, r') → (colD d || valD d || callD k d) = true
  | k, r, r', d, h => by
    unfold pTerm at h
    split at h
    · rw [pVal_form h, Bool.or_true]; rfl
    · obtain ⟨⟨⟨a, b⟩, r1⟩, h1, h2⟩ := Option.bind_eq_some_iff.mp h
      obtain ⟨ha, hb⟩ := pDot_form h1
      cases e : tk "(" r1 with
      | none =>
        simp only [e] at h2
        cases h2
        rw [col_mk ha hb]; rfl
      | some r2 =>
        simp only [e] at h2
        cases k with
        | zero => cases h2
        | succ k =>
          obtain ⟨⟨t1, r3⟩, h3, h4⟩ := Option.bind_eq_some_iff.mp h2
          have f1 := pTerm_form h3
          cases e4 : tk ", " r3 with
          | none =>
            simp only [e4] at h4
            obtain ⟨r6, _, h6⟩ := Option.map_eq_some_iff.mp h4
            cases h6
            rw [call_mk (ts := [t1]) ha hb (Nat.le_refl 1) (Nat.le_succ 1) fun t ht => by rw [List.mem_singleton.mp ht]; exact f1, Bool.or_true]
          | some r4 =>
            simp only [e4] at h4
            obtain ⟨⟨t2, r5⟩, h5, h6⟩ := Option.bind_eq_some_iff.mp h4
            have f2 := pTerm_form h5
            obtain ⟨r6, _, h7⟩ := Option.map_eq_some_iff.mp h6
            cases h7
            rw [call_mk (ts := [t1, t2]) ha hb (Nat.le_succ 1) (Nat.le_refl 2) fun t ht => by
              rcases List.mem_cons.mp ht with rfl | ht
              · exact f1
              · rw [List.mem_singleton.mp ht]; exact f2, Bool.or_true]
theorem fzTold1 {r r' : Cs} {d : PyData} (h : pTold1 r = some (d, r')) : Fz 5000 9 d := by
  unfold pTold1 at h
  obtain ⟨⟨t, r1⟩, h1, h2⟩ := Option.bind_eq_some_iff.mp h
  have ft := (fzTm 3 (pTerm_form h1)).mono (show zB 3 ≤ 4300 by decide) (show 2 * 3 + 1 ≤ 8 by decide)
  have c1 : Fz 85 8 (.str "column") := fzW (by decide) (by decide +kernel)
  have c2 : Fz 85 8 (.str "term") := fzW (by decide) (by decide +kernel)
  by_cases hc : colD t = true
  · simp only [hc, if_true] at h2
    cases e : tk " as " r1 with
    | none =>
      simp only [e] at h2
      cases h2
      obtain ⟨a, b, rfl, ha, hb⟩ := colE hc
      exact (c1.cons (ft.cons ((fzN hb).cons .nil))).tup.mono (by omega) (by omega)
    | some r2 =>
      simp only [e] at h2
      obtain ⟨⟨n, r3⟩, h3, h4⟩ := Option.map_eq_some_iff.mp h2
      cases h4
      exact (c1.cons (ft.cons ((fzN (pName_form h3)).cons .nil))).tup.mono (by omega) (by omega)
  · simp only [hc] at h2
    obtain ⟨r2, _, h2⟩ := Option.bind_eq_some_iff.mp h2
    obtain ⟨⟨n, r3⟩, h3, h4⟩ := Option.map_eq_some_iff.mp h2
    cases h4
    exact (c2.cons (ft.cons ((fzN (pName_form h3)).cons .nil))).tup.mono (by omega) (by omega)
theorem fzTold {r r' : Cs} {d : PyData} (h : pTold r = some (d, r')) : Fz 5000 9 d := by
  unfold pTold at h
  split at h
  · exact fzTold1 h
  · obtain ⟨⟨n, r1⟩, h1, h2⟩ := Option.bind_eq_some_iff.mp h
    cases e : tk ".*" r1 with
    | none => simp only [e] at h2; exact fzTold1 h2
    | some r2 =>
      simp only [e] at h2
      cases h2
      have c1 : Fz 85 8 (.str "star") := fzW (by decide) (by decide +kernel)
      exact (c1.cons ((fzN (pName_form h1)).cons .nil)).tup.mono (by omega) (by omega)
theorem fzSource {r r' : Cs} {d : PyData} (h : pSource r = some (d, r')) : Fz 5000 9 d := by
  unfold pSource at h
  obtain ⟨⟨⟨a, b⟩, r1⟩, h1, h2⟩ := Option.bind_eq_some_iff.mp h
  obtain ⟨ha, hb⟩ := pDot_form h1
  have f3 : ∀ {l : PyData}, namD l = true → Fz 5000 9 (.tuple [a, b, l]) := fun hl => ((fzO ha).cons (k := 8) ((fzN hb).cons ((fzN hl).cons .nil))).tup.mono (by omega) (by omega)
  split at h2
  · cases h2; exact f3 hb
  · cases e : tk " " r1 with
    | none => simp only [e] at h2; cases h2; exact f3 hb
    | some r2 =>
      simp only [e] at h2
      obtain ⟨⟨n, r3⟩, h3, h4⟩ := Option.map_eq_some_iff.mp h2
      cases h4
      exact f3 (pName_form h3)
theorem pMore_form {p : Cs → Option (PyData × Cs)} {sep : Str} {ok : PyData → Prop} (hp : ∀ {r r' d}, p r = some (d, r') → ok d) : ∀ {n : Nat} {r r' : Cs} {ds : List PyData}, pMore p sep n r = some (ds, r') → ds.length ≤ n ∧ ∀ d ∈ ds, ok d
  | n, r, r', ds, h => by
    unfold pMore at h
    cases e : tk sep r with
    | none =>
      simp only [e] at h
      cases h
      exact ⟨Nat.zero_le _, fun d hd => by cases hd⟩
    | some r1 =>
      simp only [e] at h
      cases n with
      | zero => cases h
      | succ n =>
        obtain ⟨⟨d, r2⟩, h1, h2⟩ := Option.bind_eq_some_iff.mp h
        obtain ⟨⟨es, r3⟩, h3, h4⟩ := Option.map_eq_some_iff.mp h2
        cases h4
        obtain ⟨i1, i2⟩ := pMore_form hp h3
        refine ⟨Nat.succ_le_succ i1, fun x hx => ?_⟩
        rcases List.mem_cons.mp hx with rfl | hx
        · exact hp h1
        · exact i2 x hx
theorem pList_form {p : Cs → Option (PyData × Cs)} {sep : Str} {ok : PyData → Prop} (hp : ∀ {r r' d}, p r = some (d, r') → ok d) {n : Nat} {r r' : Cs} {ds : List PyData} (hn : 1 ≤ n) (h : pList p sep n r = some (ds, r')) : ds.length ≤ n ∧ ∀ d ∈ ds, ok d := by
  unfold pList at h
  obtain ⟨⟨d, r2⟩, h1, h2⟩ := Option.bind_eq_some_iff.mp h
  obtain ⟨⟨es, r3⟩, h3, h4⟩ := Option.map_eq_some_iff.mp h2
  cases h4
  obtain ⟨i1, i2⟩ := pMore_form hp h3
  refine ⟨by show es.length + 1 ≤ n; omega, fun x hx => ?_⟩
  rcases List.mem_cons.mp hx with rfl | hx
  · exact hp h1
  · exact i2 x hx
theorem fzCond {r r' : Cs} {d : PyData} (h : pCond r = some (d, r')) : Fz 5000 9 d := by
  unfold pCond at h
  obtain ⟨⟨⟨a, b⟩, r1⟩, h1, h2⟩ := Option.bind_eq_some_iff.mp h
  obtain ⟨ha, hb⟩ := pDot_form h1
  have c1 : Fz 85 8 (.str "equal") := fzW (by decide) (by decide +kernel)
  have c2 : Fz 85 8 (.str "in") := fzW (by decide) (by decide +kernel)
  cases e : tk " = " r1 with
  | some r2 =>
    simp only [e] at h2
    obtain ⟨⟨⟨c, d⟩, r3⟩, h3, h4⟩ := Option.map_eq_some_iff.mp h2
    cases h4
    obtain ⟨hc, hd⟩ := pDot_form h3
    exact (c1.cons ((fzC (k := 7) (col_mk ha hb)).cons ((fzC (k := 7) (col_mk hc hd)).cons .nil))).tup.mono (by omega) (by omega)
  | none =>
    simp only [e] at h2
    obtain ⟨r2, _, h2⟩ := Option.bind_eq_some_iff.mp h2
    obtain ⟨⟨vs, r3⟩, h3, h4⟩ := Option.bind_eq_some_iff.mp h2
    obtain ⟨r4, _, h5⟩ := Option.map_eq_some_iff.mp h4
    cases h5
    obtain ⟨i1, i2⟩ := pList_form (ok := fun d => valD d = true) (fun h => pVal_form h) (by decide) h3
    have fv : FzL (8 * (85 + 2)) 7 vs := FzL.of i1 fun d hd => by obtain ⟨z, rfl, hz⟩ := valE (i2 d hd); exact fzV hz
    exact (c2.cons ((fzC (k := 7) (col_mk ha hb)).cons (fv.tup.cons .nil))).tup.mono (by omega) (by omega)
theorem fzStmt {r r' : Cs} {d : PyData} (h : pStmt r = some (d, r')) : okS d = true := by
  unfold pStmt at h
  obtain ⟨r1, _, h⟩ := Option.bind_eq_some_iff.mp h
  obtain ⟨⟨ts, r2⟩, h2, h3⟩ := Option.bind_eq_some_iff.mp h
  obtain ⟨a1, a2⟩ := pList_form (ok := Fz 5000 9) (fun h => fzTold h) (by decide) h2
  unfold pTail at h3
  obtain ⟨r4, _, h3⟩ := Option.bind_eq_some_iff.mp h3
  obtain ⟨⟨ss, r5⟩, h5, h6⟩ := Option.bind_eq_some_iff.mp h3
  obtain ⟨b1, b2⟩ := pList_form (ok := Fz 5000 9) (fun h => fzSource h) (by decide) h5
  have fin : ∀ {b : Bool} {cc : List PyData}, cc.length ≤ 8 → (∀ d ∈ cc, Fz 5000 9 d) → okS (.tuple [.bool b, .tuple ts, .tuple ss, .tuple cc]) = true := fun {b cc} c1 c2 => by
    have fb : Fz 5 10 (.bool b) := ⟨rfl, by show 5 ≤ 5; decide, Nat.zero_le _⟩
    exact ((fb.cons ((FzL.of a1 a2).tup.cons ((FzL.of b1 b2).tup.cons ((FzL.of c1 c2).tup.cons .nil)))).tup).okS (by decide) (by decide)
  cases e : tk " where " r5 with
  | none =>
    simp only [e] at h6
    cases h6
    exact fin (by decide) fun d hd => by cases hd
  | some r6 =>
    simp only [e] at h6
    obtain ⟨⟨cc, r7⟩, h7, h8⟩ := Option.map_eq_some_iff.mp h6
    cases h8
    obtain ⟨c1, c2⟩ := pList_form (ok := Fz 5000 9) (fun h => fzCond h) (by decide) h7
    exact fin c1 c2
/-- what take_statement takes: a statement that is written so -/
def pStmtC (r : Cs) : Option (PyData × Cs) := (pStmt r).bind fun x => if stD x.1 = true ∧ cs (writeT x.1) = r.take (r.length - x.2.length) then some x else none
def pRead (z : Str) : Option PyData := (pStmtC (cs z)).bind fun x => if x.2 = [] then some x.1 else none
/-- what was written is read -/
theorem pRead_write {d : PyData} (h : stD d = true) : pRead (writeT d) = some d := by
  unfold pRead pStmtC
  rw [pStmt_cat h]
  simp only [Option.bind_some]
  rw [if_pos ⟨h, by rw [List.length_nil, Nat.sub_zero, List.take_length]⟩]
  simp
end My
namespace My
open PySem PySem.Spec PyProof.Rows L2
mutual
theorem DT.dg {S : Addr → Prop} {H : Hp} : ∀ {v : V} {d : PyData}, DT H v d → DG S H v d
  | _, _, .non => .non
  | _, _, .bl b => .bl b
  | _, _, .int i => .int i
  | _, _, .str x => .str x
  | _, _, .tup h hs => .tup h (DTs.dgs hs)
theorem DTs.dgs {S : Addr → Prop} {H : Hp} : ∀ {vs : List V} {ds : List PyData}, DTs H vs ds → DGs S H vs ds
  | _, _, .nil => .nil
  | _, _, .cons h hs => .cons (DT.dg h) (DTs.dgs hs)
end
end My

namespace K86
open PySem PySem.Spec PyProof.Rows L2 My
abbrev sLaw : Stmt := top 23
abbrev nLaw : List Str := ["_law_script", "_law_pen_here", "_law_texts_here", "_law_turn", "_law_one", "_law_before", "_law_text_here"]
def spLaw (K : PySem.W.Frag) : Sp := fun vs H Q _ => ∃ (a : Addr) (ns : List Int), vs = [.ref a] ∧ SqL K H a (ns.map V.int) ∧ ns.length ≤ 63 ∧ ∀ H', Q (.bl true) H'
/-! sizes -/
theorem nyms_fz : ∀ z ∈ nyms, okE (.str z) = true := by decide +kernel
theorem wPool_fz : ∀ z ∈ wPool, okE (.str z) = true := by decide +kernel
theorem int_fz : ∀ k < 12, okE (.int (k : Nat)) = true := by decide +kernel
theorem Nm.fz {d : PyData} (h : Nm d) : Fz 100 0 d := by
  obtain ⟨z, hz, rfl⟩ := h
  exact ⟨nyms_fz z hz, by show 10 * z.length + 5 ≤ 100; have := nyms_len z hz; omega, Nat.zero_le _⟩
theorem Ni.fz {d : PyData} (h : Ni d) : Fz 100 0 d := by
  obtain ⟨k, hk, rfl⟩ := h
  exact ⟨int_fz k hk, by show 70 ≤ 100; decide, Nat.zero_le _⟩
theorem c_fz {z : Str} (h : okE (.str z) = true := by decide +kernel) (l : z.length ≤ 9 := by decide) : Fz 100 0 (.str z) := ⟨h, by show 10 * z.length + 5 ≤ 100; omega, Nat.zero_le _⟩
theorem SoD.fz {d : PyData} (h : SoD d) : Fz 300 1 d := by
  obtain ⟨zs, rfl, _, l, hz⟩ := h
  exact (FzL.of (n := 100) (k := 0) (m := 2) (ds := zs.map .str) (by rw [List.length_map]; exact l) fun d hd => by
    obtain ⟨z, hz', rfl⟩ := List.mem_map.mp hd
    exact Nm.fz ⟨z, hz z hz', rfl⟩).tup.mono (by decide) (by decide)
theorem Wor.fz {d : PyData} (h : Wor d) : Fz 400 1 d := by
  obtain ⟨zs, rfl, _, l, _, hz⟩ := h
  exact (FzL.of (n := 100) (k := 0) (m := 3) (ds := zs.map .str) (by rw [List.length_map]; exact l) fun d hd => by
    obtain ⟨z, hz', rfl⟩ := List.mem_map.mp hd
    exact ⟨wPool_fz z (hz z hz'), by show 10 * z.length + 5 ≤ 100; have := wPool_len z (hz z hz'); omega, Nat.zero_le _⟩).tup.mono (by decide) (by decide)
theorem PsD.fz {d : PyData} (h : PsD d) : Fz 800 2 d := by
  obtain ⟨ps, rfl, _, l, hp⟩ := h
  exact (FzL.of (n := 210) (k := 1) (m := 3) (ds := ps.map prD) (by rw [List.length_map]; exact l) fun d hd => by
    obtain ⟨x, hx, rfl⟩ := List.mem_map.mp hd
    exact ((Nm.fz ⟨x.1, (hp x hx).1, rfl⟩).cons ((Ni.fz ⟨x.2, (hp x hx).2, rfl⟩).cons FzL.nil)).tup.mono (by decide) (by decide)).tup.mono (by decide) (by decide)
theorem RuD.fz {d : PyData} (h : RuD d) : Fz 800 2 d := by
  rcases h with rfl | ⟨m, v, hm, hv, rfl⟩
  · exact ⟨rfl, by decide, Nat.zero_le _⟩
  · exact (((Ni.fz ⟨m, hm, rfl⟩).mono (k := 0) (j := 1) (Nat.le_refl _) (by decide)).cons (hv.fz.cons FzL.nil)).tup.mono (by decide) (by decide)
theorem Ent.ok {e : PyData} (h : Ent e) : okS e = true := by
  have u : ∀ {n k : Nat} {d : PyData}, Fz n k d → n ≤ 1000 → k ≤ 2 → Fz 1000 2 d := fun h a b => h.mono a b
  cases h with
  | at' ha hb hi => exact ((u c_fz (by decide) (by decide)).cons ((u ha.fz (by decide) (by decide)).cons ((u hb.fz (by decide) (by decide)).cons ((u hi.fz (by decide) (by decide)).cons FzL.nil)))).tup.okS (by decide) (by decide)
  | free ha hb => exact ((u c_fz (by decide) (by decide)).cons ((u ha.fz (by decide) (by decide)).cons ((u hb.fz (by decide) (by decide)).cons FzL.nil))).tup.okS (by decide) (by decide)
  | column hi ha hj => exact ((u c_fz (by decide) (by decide)).cons ((u hi.fz (by decide) (by decide)).cons ((u ha.fz (by decide) (by decide)).cons ((u hj.fz (by decide) (by decide)).cons FzL.nil)))).tup.okS (by decide) (by decide)
  | bare hi ha => exact ((u c_fz (by decide) (by decide)).cons ((u hi.fz (by decide) (by decide)).cons ((u ha.fz (by decide) (by decide)).cons FzL.nil))).tup.okS (by decide) (by decide)
  | columns hi hs => exact ((u c_fz (by decide) (by decide)).cons ((u hi.fz (by decide) (by decide)).cons ((u hs.fz (by decide) (by decide)).cons FzL.nil))).tup.okS (by decide) (by decide)
  | function ha hb hs hi => exact ((u c_fz (by decide) (by decide)).cons ((u ha.fz (by decide) (by decide)).cons ((u hb.fz (by decide) (by decide)).cons ((u hs.fz (by decide) (by decide)).cons ((u hi.fz (by decide) (by decide)).cons FzL.nil))))).tup.okS (by decide) (by decide)
  | unmade ha hb hs => exact ((u c_fz (by decide) (by decide)).cons ((u ha.fz (by decide) (by decide)).cons ((u hb.fz (by decide) (by decide)).cons ((u hs.fz (by decide) (by decide)).cons FzL.nil)))).tup.okS (by decide) (by decide)
  | right ha hi => exact ((u c_fz (by decide) (by decide)).cons ((u ha.fz (by decide) (by decide)).cons ((u hi.fz (by decide) (by decide)).cons FzL.nil))).tup.okS (by decide) (by decide)
  | rule ha hi hr => exact ((u c_fz (by decide) (by decide)).cons ((u ha.fz (by decide) (by decide)).cons ((u hi.fz (by decide) (by decide)).cons ((u hr.fz (by decide) (by decide)).cons FzL.nil)))).tup.okS (by decide) (by decide)
/-! small signs -/
theorem sm_low {z : Str} (h : (cs z).all lowC = true) : Sm z := fun c hc => lowC_3 c (List.all_eq_true.mp h c hc)
theorem Nm.sm {d : PyData} (h : Nm d) : Sm (sv d) := by obtain ⟨z, hz, rfl⟩ := h; exact sm_low (nyms_low z hz)
theorem Ni.sm {d : PyData} (h : Ni d) : Sm (numT (iv d)) := by
  obtain ⟨k, hk, rfl⟩ := h
  intro c hc
  have := List.all_eq_true.mp (num_dig k hk) c hc
  unfold digB at this
  rw [Bool.and_eq_true, decide_eq_true_eq, decide_eq_true_eq] at this
  omega
theorem sm_map {s : Str} {f : PyData → Str} {ds : List PyData} (hs : Sm s) (h : ∀ d ∈ ds, Sm (f d)) : Sm (Txt.join s (ds.map f)) := sm_join hs fun x hx => by
  obtain ⟨d, hd, rfl⟩ := List.mem_map.mp hx
  exact h d hd
theorem sm_c {z : Str} (h : (z.cps.toList.all fun c => decide (c < 128)) = true := by decide +kernel) : Sm z := sm_of h
theorem SoD.sm {d : PyData} (h : SoD d) : Sm (rowT (els d)) := by
  obtain ⟨zs, rfl, _, _, hz⟩ := h
  exact Sm.cat (Sm.cat sm_c (sm_map sm_c fun d hd => by
    obtain ⟨z, hz', rfl⟩ := List.mem_map.mp hd
    exact Nm.sm ⟨z, hz z hz', rfl⟩)) sm_c
theorem Wor.sm {d : PyData} (h : Wor d) : Sm (valsT (els d)) := by
  obtain ⟨zs, rfl, _, _, _, hz⟩ := h
  exact Sm.cat (Sm.cat sm_c (sm_map sm_c fun d hd => by
    obtain ⟨z, hz', rfl⟩ := List.mem_map.mp hd
    exact Sm.cat (Sm.cat sm_c (sm_low (wPool_low z (hz z hz')))) sm_c)) sm_c
theorem PsD.sm {d : PyData} (h : PsD d) : Sm (pairsT (els d)) := by
  obtain ⟨ps, rfl, _, _, hp⟩ := h
  exact sm_map sm_c fun d hd => by
    obtain ⟨x, hx, rfl⟩ := List.mem_map.mp hd
    exact Sm.cat (Sm.cat (Nm.sm ⟨x.1, (hp x hx).1, rfl⟩) sm_c) (Ni.sm ⟨x.2, (hp x hx).2, rfl⟩)
theorem RuD.sm {d : PyData} (h : RuD d) : Sm (ruleT d) := by
  rcases h with rfl | ⟨m, v, hm, hv, rfl⟩
  · exact sm_of (by decide +kernel)
  · exact Sm.cat (Sm.cat (Ni.sm ⟨m, hm, rfl⟩) sm_c) hv.sm
theorem sm_emp {l : List Str} (h : ∀ x ∈ l, Sm x) : Sm (Txt.join Str.empty l) := sm_join sm_empty h
theorem Ent.sm {e : PyData} (h : Ent e) : Sm (entT e) := by
  have two : ∀ {a b : Str}, Sm a → Sm b → ∀ x ∈ [a, b], Sm x := fun ha hb x hx => by
    simp only [List.mem_cons, List.not_mem_nil, or_false] at hx
    rcases hx with rfl | rfl
    · exact ha
    · exact hb
  have three : ∀ {a b c : Str}, Sm a → Sm b → Sm c → ∀ x ∈ [a, b, c], Sm x := fun ha hb hc x hx => by
    simp only [List.mem_cons, List.not_mem_nil, or_false] at hx
    rcases hx with rfl | rfl | rfl
    · exact ha
    · exact hb
    · exact hc
  have four : ∀ {a b c d : Str}, Sm a → Sm b → Sm c → Sm d → ∀ x ∈ [a, b, c, d], Sm x := fun ha hb hc hd x hx => by
    simp only [List.mem_cons, List.not_mem_nil, or_false] at hx
    rcases hx with rfl | rfl | rfl | rfl
    · exact ha
    · exact hb
    · exact hc
    · exact hd
  cases h with
  | at' ha hb hi => exact sm_emp (three (Sm.cat (x := "at ") sm_c ha.sm) (Sm.cat (x := ".") sm_c hb.sm) (Sm.cat (x := " ") sm_c hi.sm))
  | free ha hb => exact sm_emp (two (Sm.cat (x := "free ") sm_c ha.sm) (Sm.cat (x := ".") sm_c hb.sm))
  | column hi ha hj => exact sm_emp (three (Sm.cat (x := "column ") sm_c hi.sm) (Sm.cat (x := " ") sm_c ha.sm) (Sm.cat (x := " ") sm_c hj.sm))
  | bare hi ha => exact sm_emp (two (Sm.cat (x := "bare ") sm_c hi.sm) (Sm.cat (x := " ") sm_c ha.sm))
  | columns hi hs => exact sm_emp (two (Sm.cat (x := "columns ") sm_c hi.sm) (Sm.cat (x := " ") sm_c hs.sm))
  | function ha hb hs hi => exact sm_emp (four (Sm.cat (x := "function ") sm_c ha.sm) (Sm.cat (x := ".") sm_c hb.sm) (Sm.cat (x := " ") sm_c hs.sm) (Sm.cat (x := " ") sm_c hi.sm))
  | unmade ha hb hs => exact sm_emp (three (Sm.cat (x := "unmade ") sm_c ha.sm) (Sm.cat (x := ".") sm_c hb.sm) (Sm.cat (x := " ") sm_c hs.sm))
  | right ha hi => exact sm_emp (two (Sm.cat (x := "right ") sm_c ha.sm) (Sm.cat (x := " ") sm_c hi.sm))
  | rule ha hi hr => exact sm_emp (three (Sm.cat (x := "rule ") sm_c ha.sm) (Sm.cat (x := " ") sm_c hi.sm) (Sm.cat (x := " ") sm_c hr.sm))
structure Bg (mg : Str → Option Value) : Prop where
  range : mg "range" = none
  repr : mg "repr" = none
/-- what the dict holds: texts of entries, with their reprs -/
def Held (kvs : List (Key × V)) : Prop := ∀ k v, valV kvs k = some v → ∃ e, Ent e ∧ k = Sum.inr (entT e) ∧ v = .str e.shown
theorem Held.put {kvs : List (Key × V)} (h : Held kvs) {e : PyData} (he : Ent e) : Held (putK kvs (Sum.inr (entT e)) (.str e.shown)) := fun k v q => by
  rw [valV_put] at q
  by_cases hk : k = Sum.inr (entT e)
  · rw [if_pos hk] at q
    cases q
    exact ⟨e, he, hk, rfl⟩
  · rw [if_neg hk] at q
    exact h k v q
theorem Held.get {kvs : List (Key × V)} (h : Held kvs) {e : PyData} (he : Ent e) : (valV kvs (Sum.inr (entT e))).getD (.str e.shown) = .str e.shown := by
  cases q : valV kvs (Sum.inr (entT e)) with
  | none => rfl
  | some v =>
    obtain ⟨e', he', k1, k2⟩ := h _ _ q
    injection k1 with k1
    rw [ent_inj he he' k1, k2]
    rfl
section
variable {P : Program} {w : World} {K : PySem.W.Frag} {mg : Str → Option Value} {base : Heap}
theorem scLaw : FnScope nLaw ["_law_script"] (defScope sLaw) := ⟨rfl, rfl, rfl, by decide +kernel, rfl, by decide +kernel, by decide +kernel⟩
theorem ok_law {f : Addr} {fd : FuncData} (F : Fun K "law" "law" sLaw f fd) (G : Bg mg) (cP : CalN P w K mg base 1 "_law_pen" (spPen K)) (cE : CalN P w K mg base 5 "_law_entry" (spGen (fun ds => ds = []) (fun _ => Ent) 200)) (cW : CalN P w K mg base 5 "write_entry" (spR REnt)) (cT : CalN P w K mg base 1 "_law_entry_text" (spR REnt)) : FnG P w K mg base 6 f fd ["_law_script"] (spLaw K) := by
  refine Fun.okG F scLaw (fun vs H Q E ⟨_, _, e, _⟩ => by rw [e]; rfl) (fun cdv B out s H vs Q E hr hG h => ?_)
  obtain ⟨a, ns, rfl, hS, hl, q⟩ := h
  refine l_cons (s_set 1 (e_c cP hr (by decide) (a_cons (e_var 0 rfl (a_nil ⟨a, ns, rfl, hS, hl, fun p L H1 s1 np nL P1 => ?_⟩)))) scLaw.nd)
  refine l_cons (s_set 2 (e_dnewK fun t ht => ?_) scLaw.nd)
  have ntp : t ≠ p := P1.newP ht
  have ntL : t ≠ L := P1.newL ht
  have P2 : Pen (upd H1 t (.dK [])) p L 0 := P1.same (same_new ht)
  have t2 : (upd H1 t (.dK [])) t = some (.dK []) := upd_same
  show WL _ _ _ [some (.ref a), some (.ref p), some (.ref t), none, none, none, none] _
  generalize upd H1 t (.dK []) = H2 at P2 t2
  refine l_cons (s_forR G.range (pg_name (i := 3) scLaw.nd rfl (.inl rfl)) (e_int ⟨40, rfl, by decide, fun i σ H' => ∃ x3 x4 x5 x6 kvs, σ = [some (.ref a), some (.ref p), some (.ref t), x3, x4, x5, x6] ∧ Pen H' p L (i * 200) ∧ H' t = some (.dK kvs) ∧ kvs.length ≤ i ∧ i ≤ 40 ∧ Held kvs, ⟨none, none, none, none, [], rfl, P2, t2, Nat.le_refl _, by decide, fun k v e => by cases e⟩, ?_, ?_⟩) PassesOwn.never)
  · rintro i σ H3 hi ⟨x3, x4, x5, x6, kvs, rfl, P3, t3, hk, _, held⟩
    show WL _ _ _ [some (.ref a), some (.ref p), some (.ref t), some (.int i), x4, x5, x6] _
    have dom3 : ∀ b, (b = p ∨ b = t) → H3 b ≠ none := fun b hb => by
      rcases hb with rfl | rfl
      · obtain ⟨xs, e⟩ := P3.p; rw [e]; exact fun z => by cases z
      · rw [t3]; exact fun z => by cases z
    refine l_cons (s_set 4 (e_c cE hr (by decide) (a_cons (e_var 1 rfl (a_nil ⟨p, L, i * 200, fun b => b = p ∨ b = t, [], [], rfl, .inl rfl, dom3, .nil, P3, by omega, rfl, fun v d H4 b4 P4 g4 he => ?_⟩)))) scLaw.nd)
    have t4 := b4 _ _ ntp t3
    have dom4 : ∀ b, (b = p ∨ b = t) → H4 b ≠ none := fun b hb => by
      rcases hb with rfl | rfl
      · obtain ⟨xs, e⟩ := P4.p; rw [e]; exact fun z => by cases z
      · rw [t4]; exact fun z => by cases z
    have ok := okS_repr he.ok
    have okt0 := shown_str he.sm (by have := entT_len he; omega)
    have okt : (PyData.str (entT d)).showable = true ∧ (PyData.str (entT d)).depth ≤ 60 ∧ (PyData.str (entT d)).shown.length ≤ sizeLine := ⟨okt0.1, okt0.2.1, Nat.le_trans okt0.2.2 (Nat.le_trans (show 10 * (entT d).length + 2 ≤ 40000 by have := entT_len he; omega) (by decide))⟩
    have hu1 : (B.deeper (envOfC "law" (defScope sLaw) s.heap.objs.size f cdv)).units + 1 < cLine := Nat.lt_of_le_of_lt (Nat.add_le_add_left (by decide) _) hr.units
    show WL _ _ _ [some (.ref a), some (.ref p), some (.ref t), some (.int i), some v, x5, x6] _
    refine l_cons (s_par 5 6 (a_cons (e_reprA G.repr hG hr.units (e_var 4 rfl ⟨_, d, g4, ok.1, ok.2.1, ok.2.2, ?_⟩))) scLaw.nd (by decide))
    refine a_cons (e_c cW hr (by decide) (a_cons (e_var 4 rfl (a_nil ⟨_, [d], _, .cons g4 .nil, dom4, ⟨d, rfl, he, rfl⟩, fun u H5 s5 g5 => ?_⟩))))
    cases g5
    refine a_nil ⟨_, _, rfl, ?_⟩
    have g5 := g4.same s5
    have dom5 := in_same s5 dom4
    have t5 := s5 _ _ t4
    show WL _ _ _ [some (.ref a), some (.ref p), some (.ref t), some (.int i), some v, some (.str d.shown), some (.str (entT d))] _
    refine l_cons (s_if (t_w (w_or (t_ne (e_reprA G.repr hG hr.units (e_var 6 rfl ⟨fun _ => False, _, .str _, okt.1, okt.2.1, okt.2.2, ?_⟩))))))
    refine e_reprA G.repr hG hr.units (e_c cT hr (by decide) (a_cons (e_var 4 rfl (a_nil ⟨_, [d], _, .cons g5 .nil, dom5, ⟨d, rfl, he, rfl⟩, fun u H6 s6 g6 => ?_⟩))))
    cases g6
    refine ⟨fun _ => False, _, .str _, okt.1, okt.2.1, okt.2.2, rfl, fun e => ?_, fun _ => ?_⟩
    · simp at e
    have g6 := g5.same s6
    have t6 := s6 _ _ t5
    refine w_or1 (t_ne (e_reprA G.repr hG hr.units (e_var 4 rfl ⟨_, d, g6, ok.1, ok.2.1, ok.2.2, e_var 5 rfl ⟨rfl, fun e => ?_, fun _ => ?_⟩⟩)))
    · simp at e
    refine l_nil ?_
    show WL _ _ _ [some (.ref a), some (.ref p), some (.ref t), some (.int i), some v, some (.str d.shown), some (.str (entT d))] _
    refine l_cons (s_if (t_ne (e_dgetS hu1 (e_var 2 rfl ⟨t, kvs, rfl, t6, e_var 6 rfl ⟨_, rfl, e_var 5 rfl ⟨kvs, t6, e_var 5 rfl ?_⟩⟩⟩))))
    rw [held.get he]
    refine ⟨rfl, fun e => ?_, fun _ => l_nil ?_⟩
    · simp at e
    show WL _ _ _ [some (.ref a), some (.ref p), some (.ref t), some (.int i), some v, some (.str d.shown), some (.str (entT d))] _
    refine l_one (s_dputS hu1 (e_var 5 rfl (e_var 2 rfl (e_var 6 rfl ⟨t, kvs, _, rfl, rfl, t6, ?_, ?_⟩))))
    · exact Nat.lt_of_lt_of_le (show kvs.length < 100 by omega) (by decide)
    · have P6 : Pen _ p L (i * 200 + 200) := (P4.same s5).same s6
      refine ⟨_, _, _, _, _, rfl, ((P6.upd ntp ntL).mono (by omega)), upd_same, ?_, by omega, held.put he⟩
      have := length_putK kvs (Sum.inr (entT d)) (.str d.shown)
      omega
  · rintro σ H3 ⟨x3, x4, x5, x6, kvs, rfl, _⟩
    exact l_one (s_ret (e_bl (q H3)))
end
end K86

namespace K86
open PySem PySem.Spec PyProof.Rows L2 My
/-! ### what the top has written -/
structure Wr (K : PySem.W.Frag) (x : Str) (st : Stmt) (f : Addr) (fd : FuncData) : Prop where
  fn : Fun K x x st f fd
  a : PySem.W.nsIn K mainGlobals x = some (some (.ref f))
theorem Wr.mg {K : PySem.W.Frag} {x : Str} {st : Stmt} {f : Addr} {fd : FuncData} {h : Heap} {mg : Str → Option Value} (W : Wr K x st f fd) (X : K.In h) (G : h.Ns mainGlobals mg) : mg x = some (.ref f) := PySem.W.mg_of X G W.a
theorem wr_mk {K : PySem.W.Frag} {x : Str} {st : Stmt} {f : Addr} {oc : Value} {od an : Option Addr} {osl : Array (Option Value)} {kV doc pm cdv ct : Value} (a : PySem.W.nsIn K mainGlobals x = some (some (.ref f))) (l : K.lookup f = some ⟨oc, od, .func (PySem.W.fnOf x x (defArgs st) (defBody st) (defScope st) .none kV doc pm an cdv ct), osl⟩)
    (c : PySem.W.codeIn K cdv x = true) (k : PySem.W.keepIn K (.ref f) = true) : ∃ fd, Wr K x st f fd := ⟨_, fun_mk (st := st) l c k, a⟩
theorem all_mk {l : PySem.W.OpenLaw} {w : World} {K : PySem.W.Frag} {h : Heap} {mg : Str → Option Value} {fa : Addr} (X : K.In h) (G : h.Ns mainGlobals mg) (hfa : mg "law" = some (.ref fa))
    (w_quo : ∃ f fd, Wr K "quoted" sQuoted f fd) (w_tvals : ∃ f fd, Wr K "text_of_values" sTValues f fd) (w_writeE : ∃ f fd, Wr K "write_entry" sWriteE f fd) (w_tparts : ∃ f fd, Wr K "text_of_parts" sTParts f fd) (w_tpart : ∃ f fd, Wr K "text_of_part" sTPart f fd) (w_pen : ∃ f fd, Wr K "_law_pen" sPen f fd) (w_next : ∃ f fd, Wr K "_law_next" sNext f fd) (w_draw : ∃ f fd, Wr K "_law_draw" sDraw f fd) (w_some : ∃ f fd, Wr K "_law_some" sSome f fd) (w_worths : ∃ f fd, Wr K "_law_worths" sWorths f fd) (w_entry : ∃ f fd, Wr K "_law_entry" sEntry f fd) (w_ltext : ∃ f fd, Wr K "_law_entry_text" sLText f fd) (w_law : ∃ f fd, Wr K "law" sLaw f fd)
    (z_list : PySem.W.nsIn K mainGlobals "list" = some none) (z_len : PySem.W.nsIn K mainGlobals "len" = some none) (z_int : PySem.W.nsIn K mainGlobals "int" = some none) (z_range : PySem.W.nsIn K mainGlobals "range" = some none) (z_min : PySem.W.nsIn K mainGlobals "min" = some none) (z_sorted : PySem.W.nsIn K mainGlobals "sorted" = some none) (z_tuple : PySem.W.nsIn K mainGlobals "tuple" = some none) (z_str : PySem.W.nsIn K mainGlobals "str" = some none) (z_zip : PySem.W.nsIn K mainGlobals "zip" = some none) (z_repr : PySem.W.nsIn K mainGlobals "repr" = some none)
    (k_tab : ∃ a, PySem.W.nsIn K mainGlobals "ENTRY_PATTERNS" = some (some (.ref a)) ∧ KTab w K a tab) :
    ∃ fd : FuncData, (∀ (s : Shared) (v : Value), BindsTo s fd ⟨[v], []⟩ [("_law_script", v)]) ∧ ∀ base : Heap, K.In base → base.Ns mainGlobals mg → FnG l.prog w K mg base 6 fa fd ["_law_script"] (spLaw K) := by
  obtain ⟨f_quo, d_quo, W_quo⟩ := w_quo
  obtain ⟨f_tvals, d_tvals, W_tvals⟩ := w_tvals
  obtain ⟨f_writeE, d_writeE, W_writeE⟩ := w_writeE
  obtain ⟨f_tparts, d_tparts, W_tparts⟩ := w_tparts
  obtain ⟨f_tpart, d_tpart, W_tpart⟩ := w_tpart
  obtain ⟨f_pen, d_pen, W_pen⟩ := w_pen
  obtain ⟨f_next, d_next, W_next⟩ := w_next
  obtain ⟨f_draw, d_draw, W_draw⟩ := w_draw
  obtain ⟨f_some, d_some, W_some⟩ := w_some
  obtain ⟨f_worths, d_worths, W_worths⟩ := w_worths
  obtain ⟨f_entry, d_entry, W_entry⟩ := w_entry
  obtain ⟨f_ltext, d_ltext, W_ltext⟩ := w_ltext
  obtain ⟨f_law, d_law, W_law⟩ := w_law
  have e := hfa.symm.trans (W_law.mg X G)
  cases e
  obtain ⟨aT, cT, hT⟩ := k_tab
  have Gl : Bl mg := { list := PySem.W.mg_none_of X G z_list, len := PySem.W.mg_none_of X G z_len, int := PySem.W.mg_none_of X G z_int }
  have Gn : Bn mg := { list := PySem.W.mg_none_of X G z_list, len := PySem.W.mg_none_of X G z_len, range := PySem.W.mg_none_of X G z_range, min := PySem.W.mg_none_of X G z_min, sorted := PySem.W.mg_none_of X G z_sorted, tuple := PySem.W.mg_none_of X G z_tuple }
  have Gw : Bw mg := { str := PySem.W.mg_none_of X G z_str, zip := PySem.W.mg_none_of X G z_zip }
  have Gv : Bv mg := { str := PySem.W.mg_none_of X G z_str, list := PySem.W.mg_none_of X G z_list }
  have Gg : Bg mg := { range := PySem.W.mg_none_of X G z_range, repr := PySem.W.mg_none_of X G z_repr }
  have b_quo := W_quo.fn.binds (ps := ["word"]) fun _ _ _ _ _ _ us hl => match us, hl with | [_], _ => rfl
  have b_tvals := W_tvals.fn.binds (ps := ["values"]) fun _ _ _ _ _ _ us hl => match us, hl with | [_], _ => rfl
  have b_writeE := W_writeE.fn.binds (ps := ["entry"]) fun _ _ _ _ _ _ us hl => match us, hl with | [_], _ => rfl
  have b_tparts := W_tparts.fn.binds (ps := ["pattern", "parts"]) fun _ _ _ _ _ _ us hl => match us, hl with | [_, _], _ => rfl
  have b_tpart := W_tpart.fn.binds (ps := ["part", "word"]) fun _ _ _ _ _ _ us hl => match us, hl with | [_, _], _ => rfl
  have b_pen := W_pen.fn.binds (ps := ["_law_script"]) fun _ _ _ _ _ _ us hl => match us, hl with | [_], _ => rfl
  have b_next := W_next.fn.binds (ps := ["_law_pen_here"]) fun _ _ _ _ _ _ us hl => match us, hl with | [_], _ => rfl
  have b_draw := W_draw.fn.binds (ps := ["_law_pen_here", "_law_under"]) fun _ _ _ _ _ _ us hl => match us, hl with | [_, _], _ => rfl
  have b_some := W_some.fn.binds (ps := ["_law_pen_here", "_law_pool", "_law_most"]) fun _ _ _ _ _ _ us hl => match us, hl with | [_, _, _], _ => rfl
  have b_worths := W_worths.fn.binds (ps := ["_law_pen_here"]) fun _ _ _ _ _ _ us hl => match us, hl with | [_], _ => rfl
  have b_entry := W_entry.fn.binds (ps := ["_law_pen_here"]) fun _ _ _ _ _ _ us hl => match us, hl with | [_], _ => rfl
  have b_ltext := W_ltext.fn.binds (ps := ["_law_one"]) fun _ _ _ _ _ _ us hl => match us, hl with | [_], _ => rfl
  have b_law := W_law.fn.binds (ps := ["_law_script"]) fun _ _ _ _ _ _ us hl => match us, hl with | [_], _ => rfl
  obtain ⟨oc, od, kV, doc, pm, an, cdv, ct, osl, ed, _, _⟩ := W_law.fn.ex
  refine ⟨d_law, fun s v => by rw [ed]; exact .of_eq rfl, fun base _ _ => ?_⟩
  have c_next : CalN l.prog w K mg base 1 "_law_next" spNext := ⟨f_next, d_next, _, ok_next W_next.fn Gl, W_next.mg X G, W_next.fn.kp, b_next⟩
  have c_draw : CalN l.prog w K mg base 2 "_law_draw" spDraw := ⟨f_draw, d_draw, _, ok_draw W_draw.fn Gl c_next, W_draw.mg X G, W_draw.fn.kp, b_draw⟩
  have c_pen : CalN l.prog w K mg base 1 "_law_pen" (spPen K) := ⟨f_pen, d_pen, _, ok_pen W_pen.fn Gl, W_pen.mg X G, W_pen.fn.kp, b_pen⟩
  have c_some : CalN l.prog w K mg base 3 "_law_some" (spGen PreSome PhiSome 100) := ⟨f_some, d_some, _, ok_some W_some.fn Gn c_draw, W_some.mg X G, W_some.fn.kp, b_some⟩
  have c_worths : CalN l.prog w K mg base 4 "_law_worths" (spGen (fun ds => ds = []) (fun _ => Wor) 100) := ⟨f_worths, d_worths, _, ok_worths W_worths.fn Gn c_some, W_worths.mg X G, W_worths.fn.kp, b_worths⟩
  have c_entry : CalN l.prog w K mg base 5 "_law_entry" (spGen (fun ds => ds = []) (fun _ => Ent) 200) := ⟨f_entry, d_entry, _, ok_entry W_entry.fn Gn c_draw c_worths, W_entry.mg X G, W_entry.fn.kp, b_entry⟩
  have c_quo : CalN l.prog w K mg base 1 "quoted" (spR RQuo) := ⟨f_quo, d_quo, _, ok_quoted W_quo.fn, W_quo.mg X G, W_quo.fn.kp, b_quo⟩
  have c_tvals : CalN l.prog w K mg base 2 "text_of_values" (spR RVals) := ⟨f_tvals, d_tvals, _, ok_tvalues W_tvals.fn c_quo, W_tvals.mg X G, W_tvals.fn.kp, b_tvals⟩
  have c_tpart : CalN l.prog w K mg base 3 "text_of_part" (spR RPart) := ⟨f_tpart, d_tpart, _, ok_tpart W_tpart.fn Gw c_tvals, W_tpart.mg X G, W_tpart.fn.kp, b_tpart⟩
  have c_tparts : CalN l.prog w K mg base 4 "text_of_parts" (spParts K) := ⟨f_tparts, d_tparts, _, ok_tparts W_tparts.fn Gw c_tpart, W_tparts.mg X G, W_tparts.fn.kp, b_tparts⟩
  have c_writeE : CalN l.prog w K mg base 5 "write_entry" (spR REnt) := ⟨f_writeE, d_writeE, _, ok_writeE W_writeE.fn ⟨aT, PySem.W.mg_of X G cT, hT⟩ c_tparts, W_writeE.mg X G, W_writeE.fn.kp, b_writeE⟩
  have c_ltext : CalN l.prog w K mg base 1 "_law_entry_text" (spR REnt) := ⟨f_ltext, d_ltext, _, ok_ltext W_ltext.fn Gv, W_ltext.mg X G, W_ltext.fn.kp, b_ltext⟩
  exact ok_law W_law.fn Gg c_pen c_entry c_writeE c_ltext
end K86

open PySem PySem.W PyProof.Rows
set_option maxRecDepth 100000 in
set_option maxHeartbeats 0 in
theorem PySem.Challenge.cw_boundonce_k86_texts_of_entries_holds : PySem.Challenge.rw_boundonce_k86_texts_of_entries.Holds := by
  w_on; o_law; k_head; (case hw => w_witness2)
  k_fill
  refine My.walk_G (l := PySem.Challenge.rw_boundonce_k86_texts_of_entries) (n := 63) (k := 6) (x := "_law_script") (sp := fun w => K86.spLaw _) rfl (by decide) rfl ⟨rfl, by decide, by decide⟩ (fun w h Y => PySem.W.kIn_of Y) ?F (fun w H a ns hl _ hS => ⟨a, ns, rfl, hS, hl, fun _ => rfl⟩)
  case F =>
    intro w mg fa h KX G hmg
    refine' K86.all_mk KX G hmg ?w_quo ?w_tvals ?w_writeE ?w_tparts ?w_tpart ?w_pen ?w_next ?w_draw ?w_some ?w_worths ?w_entry ?w_ltext ?w_law ?z_list ?z_len ?z_int ?z_range ?z_min ?z_sorted ?z_tuple ?z_str ?z_zip ?z_repr ?k_tab
    (case w_quo => refine' ⟨_, K86.wr_mk ?a ?l ?c ?k⟩; (case a => k_is); (case l => k_is); (case c => k_is); (case k => k_is))
    (case w_tvals => refine' ⟨_, K86.wr_mk ?a ?l ?c ?k⟩; (case a => k_is); (case l => k_is); (case c => k_is); (case k => k_is))
    (case w_writeE => refine' ⟨_, K86.wr_mk ?a ?l ?c ?k⟩; (case a => k_is); (case l => k_is); (case c => k_is); (case k => k_is))
    (case w_tparts => refine' ⟨_, K86.wr_mk ?a ?l ?c ?k⟩; (case a => k_is); (case l => k_is); (case c => k_is); (case k => k_is))
    (case w_tpart => refine' ⟨_, K86.wr_mk ?a ?l ?c ?k⟩; (case a => k_is); (case l => k_is); (case c => k_is); (case k => k_is))
    (case w_pen => refine' ⟨_, K86.wr_mk ?a ?l ?c ?k⟩; (case a => k_is); (case l => k_is); (case c => k_is); (case k => k_is))
    (case w_next => refine' ⟨_, K86.wr_mk ?a ?l ?c ?k⟩; (case a => k_is); (case l => k_is); (case c => k_is); (case k => k_is))
    (case w_draw => refine' ⟨_, K86.wr_mk ?a ?l ?c ?k⟩; (case a => k_is); (case l => k_is); (case c => k_is); (case k => k_is))
    (case w_some => refine' ⟨_, K86.wr_mk ?a ?l ?c ?k⟩; (case a => k_is); (case l => k_is); (case c => k_is); (case k => k_is))
    (case w_worths => refine' ⟨_, K86.wr_mk ?a ?l ?c ?k⟩; (case a => k_is); (case l => k_is); (case c => k_is); (case k => k_is))
    (case w_entry => refine' ⟨_, K86.wr_mk ?a ?l ?c ?k⟩; (case a => k_is); (case l => k_is); (case c => k_is); (case k => k_is))
    (case w_ltext => refine' ⟨_, K86.wr_mk ?a ?l ?c ?k⟩; (case a => k_is); (case l => k_is); (case c => k_is); (case k => k_is))
    (case w_law => refine' ⟨_, K86.wr_mk ?a ?l ?c ?k⟩; (case a => k_is); (case l => k_is); (case c => k_is); (case k => k_is))
    (case z_list => k_is)
    (case z_len => k_is)
    (case z_int => k_is)
    (case z_range => k_is)
    (case z_min => k_is)
    (case z_sorted => k_is)
    (case z_tuple => k_is)
    (case z_str => k_is)
    (case z_zip => k_is)
    (case z_repr => k_is)
    (case k_tab => refine' My.ktab_mk ?ja ?jl ?jt ?jd ?jo ?jk ?jw; (case ja => k_is); (case jl => k_is); (case jt => rfl); (case jd => rfl); (case jo => rfl); (case jk => (repeat (refine ⟨⟨_, _, rfl, rfl⟩, ?_⟩)); exact trivial); (case jw => (repeat (first | exact My.KTabL.nil | (refine' My.KTabL.cons ?je ?jp ?_; (case je => k_is); (case jp => first | (refine' My.kpat2 ?jl2 ?jc2 ?jp0 ?jp1; (case jl2 => k_is); (case jc2 => rfl); (case jp0 => refine' My.kpair_mk ?jl3 ?jc3; (case jl3 => k_is); (case jc3 => rfl)); (case jp1 => refine' My.kpair_mk ?jl3 ?jc3; (case jl3 => k_is); (case jc3 => rfl))) | (refine' My.kpat3 ?jl2 ?jc2 ?jp0 ?jp1 ?jp2; (case jl2 => k_is); (case jc2 => rfl); (case jp0 => refine' My.kpair_mk ?jl3 ?jc3; (case jl3 => k_is); (case jc3 => rfl)); (case jp1 => refine' My.kpair_mk ?jl3 ?jc3; (case jl3 => k_is); (case jc3 => rfl)); (case jp2 => refine' My.kpair_mk ?jl3 ?jc3; (case jl3 => k_is); (case jc3 => rfl))) | (refine' My.kpat4 ?jl2 ?jc2 ?jp0 ?jp1 ?jp2 ?jp3; (case jl2 => k_is); (case jc2 => rfl); (case jp0 => refine' My.kpair_mk ?jl3 ?jc3; (case jl3 => k_is); (case jc3 => rfl)); (case jp1 => refine' My.kpair_mk ?jl3 ?jc3; (case jl3 => k_is); (case jc3 => rfl)); (case jp2 => refine' My.kpair_mk ?jl3 ?jc3; (case jl3 => k_is); (case jc3 => rfl)); (case jp3 => refine' My.kpair_mk ?jl3 ?jc3; (case jl3 => k_is); (case jc3 => rfl)))))))))
