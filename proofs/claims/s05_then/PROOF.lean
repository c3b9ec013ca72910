import PyProof.Rows.All
import Wide.All
import OpenK.AllK
import Wide.FinOn
import PyProof.EqAt
import PyProof.EqKinds
import PyProof.TupleCall
import KE.BitLaws
import Open.SpecLaws
import KE.OsHead
import KE.OsGo
import KE.KDictLaws
import PyProof.EnumMake
import PyProof.Rows.CallKwBuiltin
import PyProof.DictRoadsH
import PyProof.ListNew
import PyProof.ZipIter
import PyProof.TupleIter
import PySem.Challenge.RW_stackeffects_s05_then
theorem o0_2{p q:Prop}{Z:Prop}(h:p∧q)(k:p→q→Z):Z:=k h.1 h.2
theorem o0_3{p q r:Prop}{Z:Prop}(h:p∧q∧r)(k:p→q→r→Z):Z:=k h.1 h.2.1 h.2.2
theorem o0_4{p q r s:Prop}{Z:Prop}(h:p∧q∧r∧s)(k:p→q→r→s→Z):Z:=k h.1 h.2.1 h.2.2.1 h.2.2.2
theorem o0_5{p q r s t:Prop}{Z:Prop}(h:p∧q∧r∧s∧t)(k:p→q→r→s→t→Z):Z:=k h.1 h.2.1 h.2.2.1 h.2.2.2.1 h.2.2.2.2
theorem o0_6{p q r s t u:Prop}{Z:Prop}(h:p∧q∧r∧s∧t∧u)(k:p→q→r→s→t→u→Z):Z:=k h.1 h.2.1 h.2.2.1 h.2.2.2.1 h.2.2.2.2.1 h.2.2.2.2.2
theorem o0_7{p q r s t u v:Prop}{Z:Prop}(h:p∧q∧r∧s∧t∧u∧v)(k:p→q→r→s→t→u→v→Z):Z:=k h.1 h.2.1 h.2.2.1 h.2.2.2.1 h.2.2.2.2.1 h.2.2.2.2.2.1 h.2.2.2.2.2.2
theorem o0_8{p q r s t u v w:Prop}{Z:Prop}(h:p∧q∧r∧s∧t∧u∧v∧w)(k:p→q→r→s→t→u→v→w→Z):Z:=k h.1 h.2.1 h.2.2.1 h.2.2.2.1 h.2.2.2.2.1 h.2.2.2.2.2.1 h.2.2.2.2.2.2.1 h.2.2.2.2.2.2.2
theorem o1_1{A:Sort _}{p:A→Prop}{Z:Prop}(h:∃ a,p a)(k:∀ a,p a→Z):Z:=h.elim fun a h=>k a h
theorem o1_2{A:Sort _}{p q:A→Prop}{Z:Prop}(h:∃ a,p a∧q a)(k:∀ a,p a→q a→Z):Z:=h.elim fun a h=>k a h.1 h.2
theorem o1_3{A:Sort _}{p q r:A→Prop}{Z:Prop}(h:∃ a,p a∧q a∧r a)(k:∀ a,p a→q a→r a→Z):Z:=h.elim fun a h=>k a h.1 h.2.1 h.2.2
theorem o1_4{A:Sort _}{p q r s:A→Prop}{Z:Prop}(h:∃ a,p a∧q a∧r a∧s a)(k:∀ a,p a→q a→r a→s a→Z):Z:=h.elim fun a h=>k a h.1 h.2.1 h.2.2.1 h.2.2.2
theorem o1_5{A:Sort _}{p q r s t:A→Prop}{Z:Prop}(h:∃ a,p a∧q a∧r a∧s a∧t a)(k:∀ a,p a→q a→r a→s a→t a→Z):Z:=h.elim fun a h=>k a h.1 h.2.1 h.2.2.1 h.2.2.2.1 h.2.2.2.2
theorem o1_6{A:Sort _}{p q r s t u:A→Prop}{Z:Prop}(h:∃ a,p a∧q a∧r a∧s a∧t a∧u a)(k:∀ a,p a→q a→r a→s a→t a→u a→Z):Z:=h.elim fun a h=>k a h.1 h.2.1 h.2.2.1 h.2.2.2.1 h.2.2.2.2.1 h.2.2.2.2.2
theorem o2_1{A B:Sort _}{p:A→B→Prop}{Z:Prop}(h:∃ a b,p a b)(k:∀ a b,p a b→Z):Z:=h.elim fun a h=>h.elim fun b h=>k a b h
theorem o2_2{A B:Sort _}{p q:A→B→Prop}{Z:Prop}(h:∃ a b,p a b∧q a b)(k:∀ a b,p a b→q a b→Z):Z:=h.elim fun a h=>h.elim fun b h=>k a b h.1 h.2
theorem o2_3{A B:Sort _}{p q r:A→B→Prop}{Z:Prop}(h:∃ a b,p a b∧q a b∧r a b)(k:∀ a b,p a b→q a b→r a b→Z):Z:=h.elim fun a h=>h.elim fun b h=>k a b h.1 h.2.1 h.2.2
theorem o2_4{A B:Sort _}{p q r s:A→B→Prop}{Z:Prop}(h:∃ a b,p a b∧q a b∧r a b∧s a b)(k:∀ a b,p a b→q a b→r a b→s a b→Z):Z:=h.elim fun a h=>h.elim fun b h=>k a b h.1 h.2.1 h.2.2.1 h.2.2.2
theorem o2_5{A B:Sort _}{p q r s t:A→B→Prop}{Z:Prop}(h:∃ a b,p a b∧q a b∧r a b∧s a b∧t a b)(k:∀ a b,p a b→q a b→r a b→s a b→t a b→Z):Z:=h.elim fun a h=>h.elim fun b h=>k a b h.1 h.2.1 h.2.2.1 h.2.2.2.1 h.2.2.2.2
theorem o2_8{A B:Sort _}{p q r s t u v w:A→B→Prop}{Z:Prop}(h:∃ a b,p a b∧q a b∧r a b∧s a b∧t a b∧u a b∧v a b∧w a b)(k:∀ a b,p a b→q a b→r a b→s a b→t a b→u a b→v a b→w a b→Z):Z:=h.elim fun a h=>h.elim fun b h=>k a b h.1 h.2.1 h.2.2.1 h.2.2.2.1 h.2.2.2.2.1 h.2.2.2.2.2.1 h.2.2.2.2.2.2.1 h.2.2.2.2.2.2.2
theorem o3_1{A B C:Sort _}{p:A→B→C→Prop}{Z:Prop}(h:∃ a b c,p a b c)(k:∀ a b c,p a b c→Z):Z:=h.elim fun a h=>h.elim fun b h=>h.elim fun c h=>k a b c h
theorem o3_2{A B C:Sort _}{p q:A→B→C→Prop}{Z:Prop}(h:∃ a b c,p a b c∧q a b c)(k:∀ a b c,p a b c→q a b c→Z):Z:=h.elim fun a h=>h.elim fun b h=>h.elim fun c h=>k a b c h.1 h.2
theorem o3_3{A B C:Sort _}{p q r:A→B→C→Prop}{Z:Prop}(h:∃ a b c,p a b c∧q a b c∧r a b c)(k:∀ a b c,p a b c→q a b c→r a b c→Z):Z:=h.elim fun a h=>h.elim fun b h=>h.elim fun c h=>k a b c h.1 h.2.1 h.2.2
theorem o3_4{A B C:Sort _}{p q r s:A→B→C→Prop}{Z:Prop}(h:∃ a b c,p a b c∧q a b c∧r a b c∧s a b c)(k:∀ a b c,p a b c→q a b c→r a b c→s a b c→Z):Z:=h.elim fun a h=>h.elim fun b h=>h.elim fun c h=>k a b c h.1 h.2.1 h.2.2.1 h.2.2.2
theorem o3_5{A B C:Sort _}{p q r s t:A→B→C→Prop}{Z:Prop}(h:∃ a b c,p a b c∧q a b c∧r a b c∧s a b c∧t a b c)(k:∀ a b c,p a b c→q a b c→r a b c→s a b c→t a b c→Z):Z:=h.elim fun a h=>h.elim fun b h=>h.elim fun c h=>k a b c h.1 h.2.1 h.2.2.1 h.2.2.2.1 h.2.2.2.2
theorem o3_6{A B C:Sort _}{p q r s t u:A→B→C→Prop}{Z:Prop}(h:∃ a b c,p a b c∧q a b c∧r a b c∧s a b c∧t a b c∧u a b c)(k:∀ a b c,p a b c→q a b c→r a b c→s a b c→t a b c→u a b c→Z):Z:=h.elim fun a h=>h.elim fun b h=>h.elim fun c h=>k a b c h.1 h.2.1 h.2.2.1 h.2.2.2.1 h.2.2.2.2.1 h.2.2.2.2.2
theorem o3_7{A B C:Sort _}{p q r s t u v:A→B→C→Prop}{Z:Prop}(h:∃ a b c,p a b c∧q a b c∧r a b c∧s a b c∧t a b c∧u a b c∧v a b c)(k:∀ a b c,p a b c→q a b c→r a b c→s a b c→t a b c→u a b c→v a b c→Z):Z:=h.elim fun a h=>h.elim fun b h=>h.elim fun c h=>k a b c h.1 h.2.1 h.2.2.1 h.2.2.2.1 h.2.2.2.2.1 h.2.2.2.2.2.1 h.2.2.2.2.2.2
theorem o3_8{A B C:Sort _}{p q r s t u v w:A→B→C→Prop}{Z:Prop}(h:∃ a b c,p a b c∧q a b c∧r a b c∧s a b c∧t a b c∧u a b c∧v a b c∧w a b c)(k:∀ a b c,p a b c→q a b c→r a b c→s a b c→t a b c→u a b c→v a b c→w a b c→Z):Z:=h.elim fun a h=>h.elim fun b h=>h.elim fun c h=>k a b c h.1 h.2.1 h.2.2.1 h.2.2.2.1 h.2.2.2.2.1 h.2.2.2.2.2.1 h.2.2.2.2.2.2.1 h.2.2.2.2.2.2.2
theorem o4_2{A B C D:Sort _}{p q:A→B→C→D→Prop}{Z:Prop}(h:∃ a b c d,p a b c d∧q a b c d)(k:∀ a b c d,p a b c d→q a b c d→Z):Z:=h.elim fun a h=>h.elim fun b h=>h.elim fun c h=>h.elim fun d h=>k a b c d h.1 h.2
theorem o4_3{A B C D:Sort _}{p q r:A→B→C→D→Prop}{Z:Prop}(h:∃ a b c d,p a b c d∧q a b c d∧r a b c d)(k:∀ a b c d,p a b c d→q a b c d→r a b c d→Z):Z:=h.elim fun a h=>h.elim fun b h=>h.elim fun c h=>h.elim fun d h=>k a b c d h.1 h.2.1 h.2.2
theorem o4_4{A B C D:Sort _}{p q r s:A→B→C→D→Prop}{Z:Prop}(h:∃ a b c d,p a b c d∧q a b c d∧r a b c d∧s a b c d)(k:∀ a b c d,p a b c d→q a b c d→r a b c d→s a b c d→Z):Z:=h.elim fun a h=>h.elim fun b h=>h.elim fun c h=>h.elim fun d h=>k a b c d h.1 h.2.1 h.2.2.1 h.2.2.2
theorem o4_5{A B C D:Sort _}{p q r s t:A→B→C→D→Prop}{Z:Prop}(h:∃ a b c d,p a b c d∧q a b c d∧r a b c d∧s a b c d∧t a b c d)(k:∀ a b c d,p a b c d→q a b c d→r a b c d→s a b c d→t a b c d→Z):Z:=h.elim fun a h=>h.elim fun b h=>h.elim fun c h=>h.elim fun d h=>k a b c d h.1 h.2.1 h.2.2.1 h.2.2.2.1 h.2.2.2.2
theorem o4_6{A B C D:Sort _}{p q r s t u:A→B→C→D→Prop}{Z:Prop}(h:∃ a b c d,p a b c d∧q a b c d∧r a b c d∧s a b c d∧t a b c d∧u a b c d)(k:∀ a b c d,p a b c d→q a b c d→r a b c d→s a b c d→t a b c d→u a b c d→Z):Z:=h.elim fun a h=>h.elim fun b h=>h.elim fun c h=>h.elim fun d h=>k a b c d h.1 h.2.1 h.2.2.1 h.2.2.2.1 h.2.2.2.2.1 h.2.2.2.2.2
theorem o4_7{A B C D:Sort _}{p q r s t u v:A→B→C→D→Prop}{Z:Prop}(h:∃ a b c d,p a b c d∧q a b c d∧r a b c d∧s a b c d∧t a b c d∧u a b c d∧v a b c d)(k:∀ a b c d,p a b c d→q a b c d→r a b c d→s a b c d→t a b c d→u a b c d→v a b c d→Z):Z:=h.elim fun a h=>h.elim fun b h=>h.elim fun c h=>h.elim fun d h=>k a b c d h.1 h.2.1 h.2.2.1 h.2.2.2.1 h.2.2.2.2.1 h.2.2.2.2.2.1 h.2.2.2.2.2.2
theorem o5_2{A B C D E:Sort _}{p q:A→B→C→D→E→Prop}{Z:Prop}(h:∃ a b c d e,p a b c d e∧q a b c d e)(k:∀ a b c d e,p a b c d e→q a b c d e→Z):Z:=h.elim fun a h=>h.elim fun b h=>h.elim fun c h=>h.elim fun d h=>h.elim fun e h=>k a b c d e h.1 h.2
theorem o5_4{A B C D E:Sort _}{p q r s:A→B→C→D→E→Prop}{Z:Prop}(h:∃ a b c d e,p a b c d e∧q a b c d e∧r a b c d e∧s a b c d e)(k:∀ a b c d e,p a b c d e→q a b c d e→r a b c d e→s a b c d e→Z):Z:=h.elim fun a h=>h.elim fun b h=>h.elim fun c h=>h.elim fun d h=>h.elim fun e h=>k a b c d e h.1 h.2.1 h.2.2.1 h.2.2.2
theorem o5_5{A B C D E:Sort _}{p q r s t:A→B→C→D→E→Prop}{Z:Prop}(h:∃ a b c d e,p a b c d e∧q a b c d e∧r a b c d e∧s a b c d e∧t a b c d e)(k:∀ a b c d e,p a b c d e→q a b c d e→r a b c d e→s a b c d e→t a b c d e→Z):Z:=h.elim fun a h=>h.elim fun b h=>h.elim fun c h=>h.elim fun d h=>h.elim fun e h=>k a b c d e h.1 h.2.1 h.2.2.1 h.2.2.2.1 h.2.2.2.2
theorem o5_7{A B C D E:Sort _}{p q r s t u v:A→B→C→D→E→Prop}{Z:Prop}(h:∃ a b c d e,p a b c d e∧q a b c d e∧r a b c d e∧s a b c d e∧t a b c d e∧u a b c d e∧v a b c d e)(k:∀ a b c d e,p a b c d e→q a b c d e→r a b c d e→s a b c d e→t a b c d e→u a b c d e→v a b c d e→Z):Z:=h.elim fun a h=>h.elim fun b h=>h.elim fun c h=>h.elim fun d h=>h.elim fun e h=>k a b c d e h.1 h.2.1 h.2.2.1 h.2.2.2.1 h.2.2.2.2.1 h.2.2.2.2.2.1 h.2.2.2.2.2.2
theorem o5_8{A B C D E:Sort _}{p q r s t u v w:A→B→C→D→E→Prop}{Z:Prop}(h:∃ a b c d e,p a b c d e∧q a b c d e∧r a b c d e∧s a b c d e∧t a b c d e∧u a b c d e∧v a b c d e∧w a b c d e)(k:∀ a b c d e,p a b c d e→q a b c d e→r a b c d e→s a b c d e→t a b c d e→u a b c d e→v a b c d e→w a b c d e→Z):Z:=h.elim fun a h=>h.elim fun b h=>h.elim fun c h=>h.elim fun d h=>h.elim fun e h=>k a b c d e h.1 h.2.1 h.2.2.1 h.2.2.2.1 h.2.2.2.2.1 h.2.2.2.2.2.1 h.2.2.2.2.2.2.1 h.2.2.2.2.2.2.2
theorem o6_2{A B C D E F:Sort _}{p q:A→B→C→D→E→F→Prop}{Z:Prop}(h:∃ a b c d e f,p a b c d e f∧q a b c d e f)(k:∀ a b c d e f,p a b c d e f→q a b c d e f→Z):Z:=h.elim fun a h=>h.elim fun b h=>h.elim fun c h=>h.elim fun d h=>h.elim fun e h=>h.elim fun f h=>k a b c d e f h.1 h.2
theorem o6_5{A B C D E F:Sort _}{p q r s t:A→B→C→D→E→F→Prop}{Z:Prop}(h:∃ a b c d e f,p a b c d e f∧q a b c d e f∧r a b c d e f∧s a b c d e f∧t a b c d e f)(k:∀ a b c d e f,p a b c d e f→q a b c d e f→r a b c d e f→s a b c d e f→t a b c d e f→Z):Z:=h.elim fun a h=>h.elim fun b h=>h.elim fun c h=>h.elim fun d h=>h.elim fun e h=>h.elim fun f h=>k a b c d e f h.1 h.2.1 h.2.2.1 h.2.2.2.1 h.2.2.2.2
theorem o6_11{A B C D E F:Sort _}{p q r s t u v w x y z:A→B→C→D→E→F→Prop}{Z:Prop}(h:∃ a b c d e f,p a b c d e f∧q a b c d e f∧r a b c d e f∧s a b c d e f∧t a b c d e f∧u a b c d e f∧v a b c d e f∧w a b c d e f∧x a b c d e f∧y a b c d e f∧z a b c d e f)(k:∀ a b c d e f,p a b c d e f→q a b c d e f→r a b c d e f→s a b c d e f→t a b c d e f→u a b c d e f→v a b c d e f→w a b c d e f→x a b c d e f→y a b c d e f→z a b c d e f→Z):Z:=h.elim fun a h=>h.elim fun b h=>h.elim fun c h=>h.elim fun d h=>h.elim fun e h=>h.elim fun f h=>k a b c d e f h.1 h.2.1 h.2.2.1 h.2.2.2.1 h.2.2.2.2.1 h.2.2.2.2.2.1 h.2.2.2.2.2.2.1 h.2.2.2.2.2.2.2.1 h.2.2.2.2.2.2.2.2.1 h.2.2.2.2.2.2.2.2.2.1 h.2.2.2.2.2.2.2.2.2.2
theorem o6_12{A B C D E F:Sort _}{p q r s t u v w x y z o:A→B→C→D→E→F→Prop}{Z:Prop}(h:∃ a b c d e f,p a b c d e f∧q a b c d e f∧r a b c d e f∧s a b c d e f∧t a b c d e f∧u a b c d e f∧v a b c d e f∧w a b c d e f∧x a b c d e f∧y a b c d e f∧z a b c d e f∧o a b c d e f)(k:∀ a b c d e f,p a b c d e f→q a b c d e f→r a b c d e f→s a b c d e f→t a b c d e f→u a b c d e f→v a b c d e f→w a b c d e f→x a b c d e f→y a b c d e f→z a b c d e f→o a b c d e f→Z):Z:=h.elim fun a h=>h.elim fun b h=>h.elim fun c h=>h.elim fun d h=>h.elim fun e h=>h.elim fun f h=>k a b c d e f h.1 h.2.1 h.2.2.1 h.2.2.2.1 h.2.2.2.2.1 h.2.2.2.2.2.1 h.2.2.2.2.2.2.1 h.2.2.2.2.2.2.2.1 h.2.2.2.2.2.2.2.2.1 h.2.2.2.2.2.2.2.2.2.1 h.2.2.2.2.2.2.2.2.2.2.1 h.2.2.2.2.2.2.2.2.2.2.2
theorem o7_2{A B C D E F G:Sort _}{p q:A→B→C→D→E→F→G→Prop}{Z:Prop}(h:∃ a b c d e f g,p a b c d e f g∧q a b c d e f g)(k:∀ a b c d e f g,p a b c d e f g→q a b c d e f g→Z):Z:=h.elim fun a h=>h.elim fun b h=>h.elim fun c h=>h.elim fun d h=>h.elim fun e h=>h.elim fun f h=>h.elim fun g h=>k a b c d e f g h.1 h.2
theorem o7_9{A B C D E F G:Sort _}{p q r s t u v w x:A→B→C→D→E→F→G→Prop}{Z:Prop}(h:∃ a b c d e f g,p a b c d e f g∧q a b c d e f g∧r a b c d e f g∧s a b c d e f g∧t a b c d e f g∧u a b c d e f g∧v a b c d e f g∧w a b c d e f g∧x a b c d e f g)(k:∀ a b c d e f g,p a b c d e f g→q a b c d e f g→r a b c d e f g→s a b c d e f g→t a b c d e f g→u a b c d e f g→v a b c d e f g→w a b c d e f g→x a b c d e f g→Z):Z:=h.elim fun a h=>h.elim fun b h=>h.elim fun c h=>h.elim fun d h=>h.elim fun e h=>h.elim fun f h=>h.elim fun g h=>k a b c d e f g h.1 h.2.1 h.2.2.1 h.2.2.2.1 h.2.2.2.2.1 h.2.2.2.2.2.1 h.2.2.2.2.2.2.1 h.2.2.2.2.2.2.2.1 h.2.2.2.2.2.2.2.2
theorem o8_10{A B C D E F G H:Sort _}{p q r s t u v w x y:A→B→C→D→E→F→G→H→Prop}{Z:Prop}(h:∃ a b c d e f g i,p a b c d e f g i∧q a b c d e f g i∧r a b c d e f g i∧s a b c d e f g i∧t a b c d e f g i∧u a b c d e f g i∧v a b c d e f g i∧w a b c d e f g i∧x a b c d e f g i∧y a b c d e f g i)(k:∀ a b c d e f g i,p a b c d e f g i→q a b c d e f g i→r a b c d e f g i→s a b c d e f g i→t a b c d e f g i→u a b c d e f g i→v a b c d e f g i→w a b c d e f g i→x a b c d e f g i→y a b c d e f g i→Z):Z:=h.elim fun a h=>h.elim fun b h=>h.elim fun c h=>h.elim fun d h=>h.elim fun e h=>h.elim fun f h=>h.elim fun g h=>h.elim fun i h=>k a b c d e f g i h.1 h.2.1 h.2.2.1 h.2.2.2.1 h.2.2.2.2.1 h.2.2.2.2.2.1 h.2.2.2.2.2.2.1 h.2.2.2.2.2.2.2.1 h.2.2.2.2.2.2.2.2.1 h.2.2.2.2.2.2.2.2.2
set_option Elab.async false
set_option linter.all false
set_option maxRecDepth 100000
namespace L2
open PySem PySem.Spec PyProof.Rows
abbrev Key:=Sum Int Str
def keyIs:Key→Value→Bool
 | .inl k,v=>Value.isInt k v
 | .inr x,v=>Value.isStrOf x v
def keyH (w:World):Key→Int
 | .inl k=>hashInt k
 | .inr x=>hashStr w x
theorem keyIs_shape:∀ {k:Key} {v:Value},keyIs k v = true→(∃ i t,k = Sum.inl i∧v = Value.int i t)∨(∃ x t,k = Sum.inr x∧v = Value.str x t)
 | .inl i,v,h=>by
  obtain ⟨t,e⟩:=Value.isInt_shape (k:=i) (v:=v) h
  exact .inl ⟨i,t,rfl,e⟩
 | .inr x,v,h=>by
  obtain ⟨t,e⟩:=Value.isStrOf_shape (x:=x) (v:=v) h
  exact .inr ⟨x,t,rfl,e⟩
theorem keyIs_int (i:Int) (t:Tok):keyIs (.inl i) (.int i t) = true:=by simp [keyIs,Value.isInt]
theorem keyIs_str (x:Str) (t:Tok):keyIs (.inr x) (.str x t) = true:=by simp [keyIs,Value.isStrOf]
theorem key_ll (a b:Int):decide ((Sum.inl a:Key) = Sum.inl b) = (a == b):=by
 by_cases e:a = b
 ·subst e; simp
 ·have h:¬ (Sum.inl a:Key) = Sum.inl b:=fun q=>e (Sum.inl.inj q)
  rw [decide_eq_false h]
  exact (beq_eq_false_iff_ne.mpr e).symm
theorem key_rr (a b:Str):decide ((Sum.inr a:Key) = Sum.inr b) = decide (a = b):=by
 by_cases e:a = b
 ·subst e; simp
 ·have h:¬ (Sum.inr a:Key) = Sum.inr b:=fun q=>e (Sum.inr.inj q)
  rw [decide_eq_false h,decide_eq_false e]
theorem key_lr (a:Int) (b:Str):decide ((Sum.inl a:Key) = Sum.inr b) = false:=decide_eq_false (fun q=>nomatch q)
theorem key_rl (a:Str) (b:Int):decide ((Sum.inr a:Key) = Sum.inl b) = false:=decide_eq_false (fun q=>nomatch q)
def mixKind (prog:Program) (w:World):PySem.KeyKind prog w Key where
 is:=keyIs
 hash:=keyH w
 inj:=fun v a b ha hb=>by
  rcases keyIs_shape ha with ⟨i,t,rfl,rfl⟩ | ⟨x,t,rfl,rfl⟩
  ·rcases keyIs_shape hb with ⟨j,u,rfl,e⟩ | ⟨y,u,rfl,e⟩
   ·injection e with e1 _; rw [e1]
   ·exact nomatch e
  ·rcases keyIs_shape hb with ⟨j,u,rfl,e⟩ | ⟨y,u,rfl,e⟩
   ·exact nomatch e
   ·injection e with e1 _; rw [e1]
 byValue:=fun k v h=>by
  rcases keyIs_shape h with ⟨i,t,rfl,rfl⟩ | ⟨x,t,rfl,rfl⟩ <;> rfl
 pyHash:=fun hv h=>by
  rcases keyIs_shape hv with ⟨i,t,rfl,rfl⟩ | ⟨x,t,rfl,rfl⟩
  ·exact wpAny_pyHash_int h
  ·exact wpAny_pyHash_str h
 eqBool:=fun hu hv h=>by
  rcases keyIs_shape hu with ⟨i,t,rfl,rfl⟩ | ⟨x,t,rfl,rfl⟩
  ·rcases keyIs_shape hv with ⟨j,u,rfl,rfl⟩ | ⟨y,u,rfl,rfl⟩
   ·rw [key_ll] at h; exact wpAny_eqBool_int h
   ·rw [key_lr] at h; exact SeqAt.EqAt.int_str i t y u _ _ _ _ h
  ·rcases keyIs_shape hv with ⟨j,u,rfl,rfl⟩ | ⟨y,u,rfl,rfl⟩
   ·rw [key_rl] at h; exact SeqAt.EqAt.str_int x t j u _ _ _ _ h
   ·rw [key_rr] at h; exact wpAny_eqBool_str h
 «strs»:=fun k x t v h=>by
  rcases keyIs_shape h with ⟨i,u,rfl,e⟩ | ⟨y,u,rfl,e⟩
  ·exact nomatch e
  ·injection e with e1 _
   subst e1
   cases v <;> rfl
theorem mixKind_int (prog:Program) (w:World) (i:Int) (t:Tok):(mixKind prog w).is (.inl i) (.int i t) = true:=keyIs_int i t
theorem mixKind_str (prog:Program) (w:World) (x:Str) (t:Tok):(mixKind prog w).is (.inr x) (.str x t) = true:=keyIs_str x t
end L2
namespace L2
open PySem PySem.Spec PyProof.Rows
inductive V where
 | non | bl (b:Bool) | int (i:Int) | str (x:Str) | byt (b:Array UInt8) | flt (b:UInt64) | ref (a:Addr) | ty (n:String)
 deriving DecidableEq
def RelV:V→Value→Prop
 | .non,u=>u = Value.none
 | .bl b,u=>u = Value.bool b
 | .int i,u=>∃ t,u = Value.int i t
 | .str x,u=>∃ t,u = Value.str x t
 | .byt b,u=>∃ t,u = Value.bytes b t
 | .flt b,u=>∃ t,u = Value.float b t
 | .ref a,u=>u = Value.ref a
 | .ty n,u=>u = Value.type n
abbrev Vals:List V→List Value→Prop:=Paired RelV
theorem Vals.length {xs:List V} {us:List Value} (r:Vals xs us):xs.length = us.length:=Paired.length r
theorem Vals.get:∀ {xs:List V} {us:List Value} {i:Nat} {x:V},Vals xs us→xs[i]? = some x→∃ u,us[i]? = some u∧RelV x u
 | _,_,_,_,.nil,e=>by simp at e
 | _,_,0,_,.cons r _,e=>by simp at e; subst e; exact ⟨_,rfl,r⟩
 | _,_,i + 1,x,.cons _ t,e=>by
  obtain ⟨u,h1,h2⟩:=Vals.get (i:=i) (x:=x) t (by simpa using e)
  exact ⟨u,by simpa using h1,h2⟩
theorem Vals.append:∀ {xs ys:List V} {us ws:List Value},Vals xs us→Vals ys ws→Vals (xs ++ ys) (us ++ ws)
 | _,_,_,_,.nil,s=>s
 | _,_,_,_,.cons r t,s=>.cons r (Vals.append t s)
theorem Vals.take:∀ {xs:List V} {us:List Value} (n:Nat),Vals xs us→Vals (xs.take n) (us.take n)
 | _,_,0,_=>.nil
 | _,_,_ + 1,.nil=>.nil
 | _,_,n + 1,.cons r t=>.cons r (Vals.take n t)
theorem Vals.drop:∀ {xs:List V} {us:List Value} (n:Nat),Vals xs us→Vals (xs.drop n) (us.drop n)
 | _,_,0,r=>r
 | _,_,_ + 1,.nil=>.nil
 | _,_,n + 1,.cons _ t=>Vals.drop n t
def RelO:Option V→Option Value→Prop
 | some v,some u=>RelV v u
 | none,none=>True
 | _,_=>False
def KV {κ:Type}:List (κ × V)→List (κ × Value)→Prop:=Paired fun (p:κ × V) (q:κ × Value)=>p.1 = q.1∧RelV p.2 q.2
def kV:Key→V
 | .inl i=>.int i
 | .inr x=>.str x
inductive HO where
  | lst (xs:List V)
  | tup (xs:List V)
  | dK (kvs:List (Key × V)) | dT (kvs:List (List Key × V))
  | set (S:Int→Bool) (n:Nat)
  | ins (C dx:Addr) (fs:List (Str × V))
  | own (x:Addr)
  | xd (fs:List (Str × V))
  | met (f x:Addr)
  | rng (lo hi:Int)
  | frz (o:Obj) (u:HO)
  | tbl (ps:Array Value)
  | ext (φ:Heap→Prop)
abbrev Hp:=Addr→Option HO
def upd (H:Hp) (a:Addr) (o:HO):Hp:=fun b=>if b = a then some o else H b
theorem upd_same {H:Hp} {a:Addr} {o:HO}:upd H a o a = some o:=by unfold upd; rw [if_pos rfl]
theorem upd_ne {H:Hp} {a b:Addr} {o:HO} (h:b≠a):upd H a o b = H b:=by unfold upd; rw [if_neg h]
theorem ne_of {H:Hp} {a b:Addr} {o u:HO} (h:H a = some o) (h':H b = some u) (d:o≠u):a≠b:=by
 intro e; subst e; rw [h] at h'; exact d (Option.some.inj h')
theorem ne_of_none {H:Hp} {a b:Addr} {o:HO} (h:H a = some o) (h':H b = none):a≠b:=by
 intro e; subst e; rw [h] at h'; cases h'
section
variable (P:Program) (w:World)
def ObjOk (H:Hp) (h:Heap) (a:Addr):HO→Prop
 | .lst xs=>xs.length≤sizeLine∧∃ (its:List Value) (n:Nat),Vals xs its∧h.get? a = some { cls:=.type "list",data:=.seq its.toArray n }
 | .tup xs=>xs.length≤sizeLine∧∃ its:List Value,Vals xs its∧IsTup h a its.toArray
 | .dK kvs=>kvs.length≤sizeLine∧(a == sysModules) = false∧∃ vs,KV kvs vs∧h.DictOf (mixKind P w) a vs
 | .dT kvs=>kvs.length≤sizeLine∧(a == sysModules) = false∧∃ xs:List (List Key × Addr × Value),
   Paired (fun (p:List Key × V) (q:List Key × Addr × Value)=>p.1 = q.1∧H q.2.1 = some (.tup (p.1.map kV))∧RelV p.2 q.2.2) kvs xs ∧
   ∃ o es ep,h.get? a = some o∧o.ExactDict∧o.data = .dict es ep∧es.toList = xs.map (entryOfKey (tupleKind (mixKind P w)))∧(xs.map (·.1)).Nodup
 | .set S n=>h.SetOf (intKind P w) a S n
 | .ins C dx fs=>H dx = some (.own a)∧fs.length≤1000∧dx≠a∧h.get? a = some (PySem.W.instObj C dx) ∧
   ∃ mA,h.Ns1 dx mA∧(∀ f,RelO (fs.lookup f) (mA f))∧PySem.Within mA (fs.map (·.1))
 | .own _=>∃ o,h.get? a = some o
 | .xd fs=>∃ mA,h.Ns1 a mA∧∀ f,RelO (fs.lookup f) (mA f)
 | .rng lo hi=>∃ t u v,h.get? a = some { cls:=.type "range",data:=.fields #[.int lo t,.int hi u,.int 1 v] }
 | .frz o u=>h.get? a = some o∧ObjOk H h a u
 | .tbl ps=>h.get? a = some { cls:=.none,data:=.fields ps }
 | .met f x=>h.get? a = some (PySem.W.methodObj (.ref f) (.ref x))
 | .ext φ=>φ h∧(∃ o,h.get? a = some o)∧∀ h1 h2:Heap,φ h1→(∀ o,h1.get? a = some o→h2.get? a = some o)→φ h2
def HOk (H:Hp) (h:Heap):Prop:=∀ a o,H a = some o→ObjOk P w H h a o
end
section
variable {P:Program} {w:World} {H H':Hp} {h h':Heap} {a:Addr} {o:HO}
theorem ObjOk.lt (x:ObjOk P w H h a o):a < h.objs.size:=by
 cases o with
 | lst xs=>obtain ⟨_,_,_,_,e⟩:=x; exact Heap.lt_size e
 | tup xs=>obtain ⟨_,_,_,p⟩:=x; exact p.lt
 | dK kvs=>obtain ⟨_,_,_,_,o,_,_,e,_⟩:=x; exact Heap.lt_size e
 | dT kvs=>obtain ⟨_,_,_,_,o,_,_,e,_⟩:=x; exact Heap.lt_size e
 | set S n=>obtain ⟨o,_,_,_,e,_⟩:=x; exact Heap.lt_size e
 | ins C dx fs=>obtain ⟨_,_,_,e,_⟩:=x; exact Heap.lt_size e
 | own y=>obtain ⟨_,e⟩:=x; exact Heap.lt_size e
 | xd fs=>obtain ⟨_,⟨_,_,_,e,_⟩,_⟩:=x; exact Heap.lt_size e
 | rng lo hi=>obtain ⟨_,_,_,e⟩:=x; exact Heap.lt_size e
 | frz ob u=>obtain ⟨e,_⟩:=x; exact Heap.lt_size e
 | tbl ps=>exact Heap.lt_size (show h.get? a = some _ from x)
 | met f y=>exact Heap.lt_size (show h.get? a = some _ from x)
 | ext φ=>obtain ⟨_,⟨_,e⟩,_⟩:=x; exact Heap.lt_size e
theorem Paired.mapP {α β:Type} {F G:α→β→Prop}:∀ {l₁:List α} {l₂:List β},Paired F l₁ l₂→(∀ a b,F a b→G a b)→Paired G l₁ l₂
 | _,_,.nil,_=>.nil
 | _,_,.cons r t,f=>.cons (f _ _ r) (Paired.mapP t f)
theorem ObjOk.stay (x:ObjOk P w H h a o) (k:∀ b u,(b = a∨H b = some (.own a))→h.get? b = some u→h'.get? b = some u)
  (ho:∀ b,H b = some (.own a)→H' b = some (.own a)) (ht:∀ b xs,H b = some (.tup xs)→H' b = some (.tup xs)):ObjOk P w H' h' a o:=by
 induction o with
 | lst xs=>obtain ⟨z,its,n,r,e⟩:=x; exact ⟨z,its,n,r,k _ _ (.inl rfl) e⟩
 | tup xs=>obtain ⟨z,its,r,ob,e,c⟩:=x; exact ⟨z,its,r,ob,k _ _ (.inl rfl) e,c⟩
 | dK kvs=>obtain ⟨z,y,vs,r,ob,es,ep,e,c⟩:=x; exact ⟨z,y,vs,r,ob,es,ep,k _ _ (.inl rfl) e,c⟩
 | dT kvs =>
  obtain ⟨z,y,xs,r,ob,es,ep,e,c⟩:=x
  exact ⟨z,y,xs,Paired.mapP r fun p q z=>⟨z.1,ht _ _ z.2.1,z.2.2⟩,ob,es,ep,k _ _ (.inl rfl) e,c⟩
 | set S n=>obtain ⟨ob,es,ep,t,e,c⟩:=x; exact ⟨ob,es,ep,t,k _ _ (.inl rfl) e,c⟩
 | ins C dx fs =>
  obtain ⟨d,z,ne,e,mA,⟨od,es,ep,e2,c⟩,r⟩:=x
  exact ⟨ho _ d,z,ne,k _ _ (.inl rfl) e,mA,⟨od,es,ep,k _ _ (.inr d) e2,c⟩,r⟩
 | own y=>obtain ⟨ob,e⟩:=x; exact ⟨ob,k _ _ (.inl rfl) e⟩
 | xd fs=>obtain ⟨mA,⟨od,es,ep,e,c⟩,r⟩:=x; exact ⟨mA,⟨od,es,ep,k _ _ (.inl rfl) e,c⟩,r⟩
 | rng lo hi=>obtain ⟨t,u,v,e⟩:=x; exact ⟨t,u,v,k _ _ (.inl rfl) e⟩
 | frz ob u ih=>obtain ⟨e,q⟩:=x; exact ⟨k _ _ (.inl rfl) e,ih q⟩
 | tbl ps =>
  have e:h.get? a = some { cls:=.none,data:=.fields ps }:=x
  show h'.get? a = some { cls:=.none,data:=.fields ps }
  exact k a _ (.inl rfl) e
 | met f y =>
  have e:h.get? a = some (PySem.W.methodObj (.ref f) (.ref y)):=x
  show h'.get? a = some (PySem.W.methodObj (.ref f) (.ref y))
  exact k a _ (.inl rfl) e
 | ext φ=>obtain ⟨p,⟨o,e⟩,st⟩:=x; exact ⟨st _ _ p fun o q=>k _ _ (.inl rfl) q,⟨o,k _ _ (.inl rfl) e⟩,st⟩
theorem HOk.lt (x:HOk P w H h) (e:H a = some o):a < h.objs.size:=(x a o e).lt
theorem HOk.fresh (x:HOk P w H h) (e:h.objs.size≤a):H a = none:=by
 cases q:H a with
 | none=>rfl
 | some u=>exact absurd (Nat.lt_of_lt_of_le (x.lt q) e) (Nat.lt_irrefl _)
theorem HOk.kept (x:HOk P w H h) (k:∀ b u,h.get? b = some u→h'.get? b = some u):HOk P w H h':=fun a o e =>
 (x a o e).stay (fun b u _ q=>k b u q) (fun _ q=>q) fun _ _ q=>q
theorem HOk.laid (x:HOk P w H h) (k:∀ b u,h.get? b = some u→h'.get? b = some u) (hp:h.objs.size≤a) (new:ObjOk P w (upd H a o) h' a o):HOk P w (upd H a o) h':=fun b u e=>by
 have hn:=x.fresh hp
 by_cases hb:b = a
 ·subst hb; rw [upd_same] at e; cases e; exact new
 ·rw [upd_ne hb] at e
  exact (x b u e).stay (fun c v _ q=>k c v q) (fun c q=>by rw [upd_ne (ne_of_none q hn)]; exact q) fun c xs q=>by rw [upd_ne (ne_of_none q hn)]; exact q
end
def Rd (H:Hp) (a:Addr) (u:HO):Prop:=H a = some u∨∃ o,H a = some (.frz o u)
theorem Rd.ok {P:Program} {w:World} {H:Hp} {h:Heap} {a:Addr} {u:HO} (r:Rd H a u) (x:HOk P w H h):ObjOk P w H h a u:=by
 rcases r with r | ⟨o,r⟩
 ·exact x a u r
 ·obtain ⟨_,q⟩:=x a _ r
  exact q
def Mut:Option HO→Prop
 | some (.lst _)=>True
 | some (.dK _)=>True
 | some (.dT _)=>True
 | some (.set _ _)=>True
 | some (.ins _ _ _)=>True
 | some (.ext _)=>True
 | _=>False
section
variable {P:Program} {w:World} {H:Hp} {h h':Heap} {x e:Addr} {o':HO}
theorem HOk.write (ok:HOk P w H h) (mu:Mut (H x)) (he:e = x∨H e = some (.own x)) (k:∀ b u,b≠e→h.get? b = some u→h'.get? b = some u) (heo:∃ u,h'.get? e = some u)
  (new:ObjOk P w (upd H x o') h' x o'):HOk P w (upd H x o') h':=fun b u q=>by
 have nown:∀ c y,H c = some (.own y)→c≠x:=fun c y r z=>by subst z; rw [r] at mu; exact mu
 have ntup:∀ c xs,H c = some (.tup xs)→c≠x:=fun c xs r z=>by subst z; rw [r] at mu; exact mu
 by_cases hb:b = x
 ·subst hb; rw [upd_same] at q; cases q; exact new
 ·rw [upd_ne hb] at q
  by_cases hbe:b = e
  ·have q':H b = some (.own x):=by
    rcases he with z | z
    ·exact absurd (hbe.trans z) hb
    ·rw [hbe]; exact z
   rw [q] at q'; cases q'
   obtain ⟨v,hv⟩:=heo
   exact ⟨v,by rw [hbe]; exact hv⟩
  ·refine (ok b u q).stay (fun c v hc r=>k c v ?_ r) (fun c r=>by rw [upd_ne (nown c b r)]; exact r) fun c xs r=>by rw [upd_ne (ntup c xs r)]; exact r
   rcases hc with rfl | hc
   ·exact hbe
   ·rintro rfl
    rcases he with z | z
    ·exact nown c b hc z
    ·rw [hc] at z; cases z; exact hb rfl
end
structure Un (fs ex:List Addr) (H H':Hp) (h h':Heap):Prop where
 keep:∀ b o,h.get? b = some o→H b = none→b ∉ fs→b ∉ ex→h'.get? b = some o
 slot:∀ b o,h.get? b = some o→H b = none→b ∈ fs→b ∉ ex→∃ sl,h'.get? b = some { o with slots:=sl }
 free:∀ b o,h.get? b = some o→H b = none→b ∉ ex→H' b = none
 there:∀ b o,h.get? b = some o→b ∉ ex→∃ o',h'.get? b = some o'
 tups:∀ b xs,H b = some (.tup xs)→H' b = some (.tup xs)
 frzs:∀ b o u,H b = some (.frz o u)→H' b = some (.frz o u)
 tbls:∀ b ps,H b = some (.tbl ps)→∃ more,H' b = some (.tbl (ps ++ more))
section
variable {fs fs' ex ex':List Addr} {H H1 H2:Hp} {h h1 h2 h':Heap} {a x e:Addr} {o:HO}
theorem Un.any (u:Un fs ex H H1 h h1) {b:Addr} {ob:Obj} (q:h.get? b = some ob) (n:H b = none) (hx:b ∉ ex):∃ sl,h1.get? b = some { ob with slots:=sl }:=by
 by_cases hb:b ∈ fs
 ·exact u.slot b ob q n hb hx
 ·exact ⟨ob.slots,u.keep b ob q n hb hx⟩
theorem Un.kept (k:∀ b u,h.get? b = some u→h'.get? b = some u):Un fs ex H H h h' :=
 ⟨fun b ob q _ _ _=>k b ob q,fun b ob q _ _ _=>⟨ob.slots,k b ob q⟩,fun _ _ _ n _=>n,fun b ob q _=>⟨ob,k b ob q⟩,fun _ _ q=>q,fun _ _ _ q=>q,fun _ ps q=>⟨#[],by rw [q]; simp⟩⟩
theorem Un.refl:Un fs ex H H h h:=Un.kept fun _ _ q=>q
theorem Un.laid (k:∀ b u,h.get? b = some u→h'.get? b = some u) (hp:h.objs.size≤a) (hn:H a = none):Un fs ex H (upd H a o) h h' where
 keep:=fun b u q _ _ _=>k b u q
 slot:=fun b u q _ _ _=>⟨u.slots,k b u q⟩
 free:=fun b u q n _=>by rw [upd_ne (Nat.ne_of_lt (Nat.lt_of_lt_of_le (Heap.lt_size q) hp))]; exact n
 there:=fun b u q _=>⟨u,k b u q⟩
 tups:=fun b xs q=>by rw [upd_ne (ne_of_none q hn)]; exact q
 frzs:=fun b u xs q=>by rw [upd_ne (ne_of_none q hn)]; exact q
 tbls:=fun b ps q=>⟨#[],by rw [upd_ne (ne_of_none q hn),q]; simp⟩
theorem Un.write (mu:Mut (H x)) (he:e = x∨H e = some (.own x)) (k:∀ b u,b≠e→h.get? b = some u→h'.get? b = some u) (heo:∃ u,h'.get? e = some u):Un fs ex H (upd H x o) h h':=by
 have hx:∀ b,H b = none→b≠x:=fun b n z=>by subst z; rw [n] at mu; exact mu
 have hb:∀ b,H b = none→b≠e:=fun b n z=>by
  subst z
  rcases he with r | r
  ·exact hx b n r
  ·rw [n] at r; cases r
 have hm:∀ b u,H b = some u→¬ Mut (some u)→b≠x:=fun b u q nm z=>by subst z; rw [q] at mu; exact nm mu
 refine ⟨fun b u q n _ _=>k b u (hb b n) q,fun b u q n _ _=>⟨u.slots,k b u (hb b n) q⟩,fun b u q n _=>by rw [upd_ne (hx b n)]; exact n,fun b u q _=>?_,
  fun b xs q=>by rw [upd_ne (hm b _ q fun z=>z)]; exact q,fun b u xs q=>by rw [upd_ne (hm b _ q fun z=>z)]; exact q,fun b ps q=>⟨#[],by rw [upd_ne (hm b _ q fun z=>z),q]; simp⟩⟩
 by_cases hbe:b = e
 ·subst hbe; exact heo
 ·exact ⟨u,k b u hbe q⟩
end
def trk (h:Heap) (H:Hp):List Addr:=(List.range h.objs.size).filter fun a=>(H a).isSome
def hidT (h:Heap) (H:Hp):Heap:=PySem.W.hideAll h (trk h H)
theorem hidT_size (h:Heap) (H:Hp):(hidT h H).objs.size = h.objs.size:=PySem.W.hideAll_size _ _
theorem hidT_get {h:Heap} {H:Hp} {b:Addr} {o:Obj} (e:h.get? b = some o) (n:H b = none):(hidT h H).get? b = some o :=
 PySem.W.hideAll_get _ e fun hm=>by
  have q:(H b).isSome = true:=(List.mem_filter.mp hm).2
  rw [n] at q; simp at q
theorem of_hidT {h:Heap} {H:Hp} {b:Addr} {o:Obj} (e:(hidT h H).get? b = some o):h.get? b = some o∧H b = none:=by
 have e':h.get? b = some o:=PySem.W.of_hideAll (trk h H) e
 refine ⟨e',?_⟩
 cases q:H b with
 | none=>rfl
 | some x =>
  have hm:b ∈ trk h H:=List.mem_filter.mpr ⟨List.mem_range.mpr (Heap.lt_size e'),by simp [q]⟩
  have z:(hidT h H).get? b = none:=PySem.W.hideAll_none (trk h H) hm
  rw [z] at e; cases e
end L2
namespace L2
open PySem PySem.Spec PyProof.Rows
structure Mod (K:PySem.W.Frag) (mg:Str→Option Value) (base:Heap):Prop where
 kin:K.In base
 glob:base.Ns mainGlobals mg
 blt:∃ mb,base.Ns builtinsNs mb∧∀ x:Str,x≠"__name__"→mb x = bootBuiltins x
 nolimit:base.NoLimit
structure Cx where
 prog:Program
 w:World
 K:PySem.W.Frag
 mg:Str→Option Value
 base:Heap
 A:Around
 N:List Str
 s_0:Shared
 H_0:Hp
 env:Env
 outer:List Env
 stack:List Env
 ex:List Addr
 fn:Str→Bool
 calm:Bool
 pn:List (Addr × Obj)
 xe:Value→Shared→Prop
def frs (l:List Env):List Addr:=l.filterMap (·.frame)
abbrev Cx.fs (X:Cx):List Addr:=frs X.outer
def Vis (sc:Scope) (x:Str):Prop:=sc.names.lookup x = some .local∨sc.names.lookup x = some .cell∨sc.names.lookup x = some .free
def Loc (sc:Scope) (x:Str):Prop:=sc.names.lookup x = some .local∨sc.names.lookup x = some .cell
def Look (env:Env) (h:Heap) (m:Str→Option Value) (x:Str) (u:Value):Prop :=
 (env.kindOf x = some .local∧m x = some u)∨((env.kindOf x = some .cell∨env.kindOf x = some .free)∧∃ c,env.cells.lookup x = some c∧h.IsCell c (some u))
structure Cx.Ok (X:Cx):Prop where
 mod:Mod X.K X.mg X.base
 kind:X.env.scope.kind = .function
 glob:X.env.globals = mainGlobals
 blt:X.env.builtins = builtinsNs
 above:X.s_0.heap.objs.size≤X.env.locals
 inj:∀ x y c,X.env.cells.lookup x = some c→X.env.cells.lookup y = some c→x = y
 has:∀ x,(X.env.kindOf x = some .cell∨X.env.kindOf x = some .free)→∃ c,X.env.cells.lookup x = some c
 cab:∀ x c,X.fn x = true→X.env.cells.lookup x = some c→X.s_0.heap.objs.size≤c
 hd:X.calm = true→X.A.handled = none
 frames:X.A.frames = some X.stack
 stk:X.stack = X.outer∨(X.stack = X.env :: X.outer∧X.env.frame = some X.env.locals)
 exf:∀ b ∈ X.ex,b≠X.env.locals∧∀ x c,X.env.cells.lookup x = some c→c≠b
 bs:∀ b o,X.base.get? b = some o→X.s_0.heap.get? b = some o∧X.H_0 b = none
 bsz:X.base.objs.size≤X.s_0.heap.objs.size
 noex:∀ b o,X.base.get? b = some o→b ∉ X.ex
 exfs:∀ b ∈ X.ex,b ∉ X.fs
 funs:X.s_0.heap.FunFrames X.base X.outer
 frf:∀ b ∈ X.fs,X.H_0 b = none
structure Inv (X:Cx) (pins:List (Addr × Obj)) (σ:List (Option V)) (H:Hp) (s:Shared):Prop where
 ok:X.Ok
 os:s.os = X.s_0.os
 bare:AllBare s.gens
 base:Un X.fs X.ex X.H_0 H X.s_0.heap s.heap
 loc:∃ m,s.heap.Ns X.env.locals m∧∀ (i:Nat) (x:Str) (v:V),X.N[i]? = some x→σ[i]? = some (some v)→Vis X.env.scope x→∃ u,RelV v u∧Look X.env s.heap m x u
 cell:∀ x c,X.env.cells.lookup x = some c→∃ v,s.heap.IsCell c v
 free:H X.env.locals = none
 freeC:∀ x c,X.env.cells.lookup x = some c→H c = none
 pin:∀ p ∈ X.pn ++ pins,s.heap.get? p.1 = some p.2∧H p.1 = none∧p.1≠X.env.locals∧p.1 ∉ X.fs∧∀ v,p.2.data≠.cell v
 hok:HOk X.prog X.w H s.heap
 len:σ.length = X.N.length
section
variable {X:Cx} {pins:List (Addr × Obj)} {σ:List (Option V)} {H H':Hp} {s:Shared} {h':Heap}
theorem Cx.Ok.nofr (ok:X.Ok) {b:Addr} {o:Obj} (e:X.base.get? b = some o):b ∉ X.fs:=fun hb=>by
 have:=(ok.funs.mem hb).1
 rw [e] at this; cases this
theorem Inv.bs (I:Inv X pins σ H s):∀ b o,X.base.get? b = some o→s.heap.get? b = some o∧H b = none:=fun b o e =>
 ⟨I.base.keep b o (I.ok.bs b o e).1 (I.ok.bs b o e).2 (I.ok.nofr e) (I.ok.noex b o e),I.base.free b o (I.ok.bs b o e).1 (I.ok.bs b o e).2 (I.ok.noex b o e)⟩
theorem Inv.bk (I:Inv X pins σ H s):∀ b o,X.base.get? b = some o→s.heap.get? b = some o:=fun b o e=>(I.bs b o e).1
theorem Inv.mod (I:Inv X pins σ H s):Mod X.K X.mg X.base:=I.ok.mod
theorem Inv.kIn (I:Inv X pins σ H s):X.K.In s.heap:=I.ok.mod.kin.keeps I.bk
theorem Inv.lt (I:Inv X pins σ H s):X.env.locals < s.heap.objs.size:=let ⟨_,hn,_⟩:=I.loc; hn.lt
theorem Inv.sz (I:Inv X pins σ H s):X.s_0.heap.objs.size≤s.heap.objs.size:=Nat.le_trans I.ok.above (Nat.le_of_lt I.lt)
theorem Inv.nofs (I:Inv X pins σ H s) {a:Addr} (h:s.heap.objs.size≤a):a ∉ X.fs:=fun hb=>by
 obtain ⟨_,o,ho,_⟩:=I.ok.funs.mem hb
 exact absurd (Nat.lt_of_lt_of_le (Heap.lt_size ho) (Nat.le_trans I.sz h)) (Nat.lt_irrefl _)
theorem Inv.cne (I:Inv X pins σ H s):∀ x c,X.env.cells.lookup x = some c→c≠X.env.locals:=fun x c e z=>by
 obtain ⟨v,o,ho,hd⟩:=I.cell x c e
 obtain ⟨m,⟨o',es,ep,ho',hd',_⟩,_⟩:=I.loc
 rw [z,ho'] at ho; cases ho; rw [hd'] at hd; cases hd
theorem Inv.funs (I:Inv X pins σ H s):s.heap.FunFrames X.base X.outer:=by
 have all:∀ (l:List Env),(∀ b ∈ frs l,b ∈ X.fs)→X.s_0.heap.FunFrames X.base l→s.heap.FunFrames X.base l:=by
  intro l
  induction l with
  | nil=>intro _ _; trivial
  | cons env r ih =>
   intro hs hl
   obtain ⟨hk,⟨L,o,hf,hn,ho,hd⟩,hr⟩:=hl
   have hL:L ∈ X.fs:=hs L (by unfold frs; rw [List.filterMap_cons,hf]; exact List.mem_cons_self)
   obtain ⟨sl,e⟩:=I.base.slot L o ho (I.ok.frf L hL) hL fun z=>I.ok.exfs L z hL
   exact ⟨hk,⟨L,_,hf,hn,e,hd⟩,ih (fun b hb=>hs b (by unfold frs; rw [List.filterMap_cons,hf]; exact List.mem_cons_of_mem _ hb)) hr⟩
 exact all X.outer (fun _ hb=>hb) I.ok.funs
theorem Inv.stack (I:Inv X pins σ H s):s.heap.FunFrames X.base X.stack:=by
 rcases I.ok.stk with e | ⟨e,hf⟩
 ·rw [e]; exact I.funs
 ·rw [e]
  obtain ⟨m,hn,_⟩:=I.loc
  refine .cons (by rw [I.ok.kind]; decide) hf hn ?_ I.funs
  exact Heap.get?_none_of_le (Nat.le_trans I.ok.bsz I.ok.above)
theorem Inv.stkSub (I:Inv X pins σ H s):∀ b ∈ frs X.stack,b ∈ X.env.locals :: X.fs:=fun b hb=>by
 rcases I.ok.stk with e | ⟨e,hf⟩
 ·rw [e] at hb; exact List.mem_cons_of_mem _ hb
 ·rw [e] at hb
  unfold frs at hb
  rw [List.filterMap_cons,hf] at hb
  exact hb
theorem Inv.stkFree (I:Inv X pins σ H s):∀ b ∈ frs X.stack,H b = none:=fun b hb=>by
 rcases List.mem_cons.mp (I.stkSub b hb) with e | hb
 ·rw [e]; exact I.free
 ·obtain ⟨_,o,ho,_⟩:=I.ok.funs.mem hb
  exact I.base.free b o ho (I.ok.frf b hb) fun z=>I.ok.exfs b z hb
theorem Inv.step {g':Array GenState} {t':Nat} {d':Drawn} {ch:List Addr} (I:Inv X pins σ H s)
  (hch:∀ b ∈ ch,(b ∈ X.ex∨X.s_0.heap.objs.size≤b)∧b≠X.env.locals∧(∀ x c,X.env.cells.lookup x = some c→c≠b)∧∀ p ∈ X.pn ++ pins,p.1≠b)
  (keep:∀ b o,b≠X.env.locals→b ∉ X.fs→b ∉ ch→s.heap.get? b = some o→H b = none→h'.get? b = some o)
  (slot:∀ b o,b≠X.env.locals→b ∈ X.fs→b ∉ ch→s.heap.get? b = some o→H b = none→∃ sl,h'.get? b = some { o with slots:=sl }) (free:∀ b o,b ∉ ch→s.heap.get? b = some o→H b = none→H' b = none)
  (there:∀ b o,b ∉ ch→s.heap.get? b = some o→∃ o',h'.get? b = some o')
  (tups:∀ b xs,H b = some (.tup xs)→H' b = some (.tup xs)) (frzs:∀ b o u,H b = some (.frz o u)→H' b = some (.frz o u)) (tbls:∀ b ps,H b = some (.tbl ps)→∃ more,H' b = some (.tbl (ps ++ more)))
  (ns:∀ m,s.heap.Ns X.env.locals m→h'.Ns X.env.locals m) (hok:HOk X.prog X.w H' h') (hg:AllBare g') :
  Inv X pins σ H' { s with heap:=h',gens:=g',drawn:=d',toks:=t' }:=by
 have neL:∀ b o,X.s_0.heap.get? b = some o→b≠X.env.locals:=fun b o e=>Nat.ne_of_lt (Nat.lt_of_lt_of_le (Heap.lt_size e) I.ok.above)
 have neC:∀ b o,X.s_0.heap.get? b = some o→b ∉ X.ex→b ∉ ch:=fun b o e hx hb=>by
  rcases (hch b hb).1 with z | z
  ·exact hx z
  ·exact absurd (Nat.lt_of_lt_of_le (Heap.lt_size e) z) (Nat.lt_irrefl _)
 have cellK:∀ x c,X.env.cells.lookup x = some c→∀ v,s.heap.IsCell c v→h'.IsCell c v:=fun x c e v ⟨o,ho,hd⟩=>by
  have nch:c ∉ ch:=fun z=>(hch c z).2.2.1 x c e rfl
  by_cases hc:c ∈ X.fs
  ·obtain ⟨sl,q⟩:=slot c o (I.cne x c e) hc nch ho (I.freeC x c e)
   exact ⟨_,q,hd⟩
  ·exact ⟨o,keep c o (I.cne x c e) hc nch ho (I.freeC x c e),hd⟩
 refine ⟨I.ok,I.os,hg,⟨fun b o e n hb hx=>?_,fun b o e n hb hx=>?_,fun b o e n hx=>?_,fun b o e hx=>?_,fun b xs e=>tups b xs (I.base.tups b xs e),fun b o xs e=>frzs b o xs (I.base.frzs b o xs e),fun b ps e=>?_⟩,?_,fun x c e=>?_,?_,fun x c e=>?_,fun p hp=>?_,hok,I.len⟩
 ·exact keep b o (neL b o e) hb (neC b o e hx) (I.base.keep b o e n hb hx) (I.base.free b o e n hx)
 ·obtain ⟨sl,e1⟩:=I.base.slot b o e n hb hx
  obtain ⟨sl',e2⟩:=slot b _ (neL b o e) hb (neC b o e hx) e1 (I.base.free b o e n hx)
  exact ⟨sl',e2⟩
 ·obtain ⟨o',e1⟩:=I.base.there b o e hx
  exact free b o' (neC b o e hx) e1 (I.base.free b o e n hx)
 ·obtain ⟨o',e1⟩:=I.base.there b o e hx
  exact there b o' (neC b o e hx) e1
 ·obtain ⟨m1,e1⟩:=I.base.tbls b ps e
  obtain ⟨m2,e2⟩:=tbls b _ e1
  exact ⟨m1 ++ m2,by rw [e2,Array.append_assoc]⟩
 ·obtain ⟨m,hn,hl⟩:=I.loc
  refine ⟨m,ns m hn,fun i x v e1 e2 e3=>?_⟩
  obtain ⟨u,r,l⟩:=hl i x v e1 e2 e3
  refine ⟨u,r,?_⟩
  rcases l with l | ⟨k,c,e,z⟩
  ·exact .inl l
  ·exact .inr ⟨k,c,e,cellK x c e _ z⟩
 ·obtain ⟨v,z⟩:=I.cell x c e
  exact ⟨v,cellK x c e v z⟩
 ·obtain ⟨m,⟨o,_,_,ho,_⟩,_⟩:=I.loc
  exact free _ o (fun z=>(hch _ z).2.1 rfl) ho I.free
 ·obtain ⟨v,o,ho,hd⟩:=I.cell x c e
  exact free c o (fun z=>(hch c z).2.2.1 x c e rfl) ho (I.freeC x c e)
 ·obtain ⟨e,n,ne,nf,d⟩:=I.pin p hp
  have nch:p.1 ∉ ch:=fun z=>(hch p.1 z).2.2.2 p hp rfl
  exact ⟨keep p.1 p.2 ne nf nch e n,free p.1 p.2 nch e n,ne,nf,d⟩
theorem Inv.un {t':Nat} (I:Inv X pins σ H s) (u:Un X.fs [] H H' s.heap h') (hok:HOk X.prog X.w H' h'):Inv X pins σ H' { s with heap:=h',toks:=t' }:=by
 obtain ⟨m,⟨o,es,ep,ho,r⟩,_⟩:=id I.loc
 obtain ⟨sl,hL⟩:=u.any ho I.free (by simp)
 exact I.step (g':=s.gens) (d':=s.drawn) (ch:=[]) (fun _ z=>nomatch z) (fun b o _ hb _ e n=>u.keep b o e n hb (by simp)) (fun b o _ hb _ e n=>u.slot b o e n hb (by simp)) (fun b o _ e n=>u.free b o e n (by simp)) (fun b o _ e=>u.there b o e (by simp)) u.tups u.frzs u.tbls (fun m' hm=>by
  obtain ⟨o',es',ep',ho',r'⟩:=hm
  rw [ho] at ho'; cases ho'
  exact ⟨_,es',ep',hL,r'⟩) hok I.bare
theorem Inv.call {g':Array GenState} {t':Nat} {d':Drawn} {ch:List Addr} (I:Inv X pins σ H s) (u:Un (frs X.stack) ch H H' s.heap h') (hok:HOk X.prog X.w H' h') (hg:AllBare g')
  (hch:∀ b ∈ ch,(b ∈ X.ex∨X.s_0.heap.objs.size≤b)∧b≠X.env.locals∧(∀ x c,X.env.cells.lookup x = some c→c≠b)∧∀ p ∈ X.pn ++ pins,p.1≠b) :
  Inv X pins σ H' { s with heap:=h',gens:=g',drawn:=d',toks:=t' }:=by
 obtain ⟨m,⟨o,es,ep,ho,r⟩,_⟩:=id I.loc
 obtain ⟨sl,hL⟩:=u.any ho I.free fun z=>(hch _ z).2.1 rfl
 exact I.step (ch:=ch) hch (fun b o hL hb hc e n=>u.keep b o e n (fun z=>(List.mem_cons.mp (I.stkSub b z)).elim hL hb) hc) (fun b o _ _ hc e n=>u.any e n hc) (fun b o hc e n=>u.free b o e n hc) (fun b o hc e=>u.there b o e hc) u.tups u.frzs u.tbls (fun m' hm=>by
  obtain ⟨o',es',ep',ho',r'⟩:=hm
  rw [ho] at ho'; cases ho'
  exact ⟨_,es',ep',hL,r'⟩) hok hg
theorem Inv.turned {t':Nat} {it:Addr} (I:Inv X pins σ H s) (k:∀ b o,b≠it→s.heap.get? b = some o→h'.get? b = some o) (hn:H it = none) (hL:it≠X.env.locals)
  (h1:it ∈ X.ex∨X.s_0.heap.objs.size≤it) (h2:∀ x c,X.env.cells.lookup x = some c→c≠it) (h3:∀ p ∈ X.pn ++ pins,p.1≠it):Inv X pins σ H { s with heap:=h',toks:=t' }:=by
 have nit:∀ b u,H b = some u→b≠it:=fun b u e z=>by rw [z,hn] at e; cases e
 refine I.step (g':=s.gens) (d':=s.drawn) (ch:=[it]) (fun b hb=>?_) (fun b o _ _ hc e _=>k b o (fun z=>hc (by simp [z])) e) (fun b o _ _ hc e _=>⟨o.slots,k b o (fun z=>hc (by simp [z])) e⟩) (fun _ _ _ _ n=>n)
  (fun b o hc e=>⟨o,k b o (fun z=>hc (by simp [z])) e⟩) (fun _ _ e=>e) (fun _ _ _ e=>e) (fun b ps e=>⟨#[],by rw [e]; simp⟩) (fun m hm=>?_) (fun b u e=>?_) I.bare
 ·have e:b = it:=by simpa using hb
  subst e
  exact ⟨h1,hL,h2,h3⟩
 ·obtain ⟨o,es,ep,ho,r⟩:=hm
  exact ⟨o,es,ep,k _ o (Ne.symm hL) ho,r⟩
 ·refine (I.hok b u e).stay (fun c v hc q=>k c v ?_ q) (fun _ q=>q) fun _ _ q=>q
  rcases hc with z | z
  ·rw [z]; exact nit b u e
  ·exact nit c _ z
theorem Inv.tok (I:Inv X pins σ H s) (t:Nat):Inv X pins σ H { s with toks:=t }:=I.un (h':=s.heap) (t':=t) Un.refl I.hok
theorem Inv.kept {t':Nat} (I:Inv X pins σ H s) (k:∀ b u,s.heap.get? b = some u→h'.get? b = some u):Inv X pins σ H { s with heap:=h',toks:=t' }:=I.un (Un.kept k) (I.hok.kept k)
theorem Inv.laid {a:Addr} {o:HO} {t':Nat} (I:Inv X pins σ H s) (k:∀ b u,s.heap.get? b = some u→h'.get? b = some u) (hp:s.heap.objs.size≤a) (new:ObjOk X.prog X.w (upd H a o) h' a o) :
  Inv X pins σ (upd H a o) { s with heap:=h',toks:=t' }:=I.un (Un.laid k hp (I.hok.fresh hp)) (I.hok.laid k hp new)
theorem Inv.write {x e:Addr} {o:HO} {t':Nat} (I:Inv X pins σ H s) (mu:Mut (H x)) (he:e = x∨H e = some (.own x)) (k:∀ b u,b≠e→s.heap.get? b = some u→h'.get? b = some u) (heo:∃ u,h'.get? e = some u)
  (new:ObjOk X.prog X.w (upd H x o) h' x o):Inv X pins σ (upd H x o) { s with heap:=h',toks:=t' }:=I.un (Un.write mu he k heo) (I.hok.write mu he k heo new)
theorem Inv.weak {σ':List (Option V)} (I:Inv X pins σ H s) (hl:σ'.length = σ.length) (w:∀ (i:Nat) v,σ'[i]? = some (some v)→σ[i]? = some (some v)):Inv X pins σ' H s :=
 ⟨I.ok,I.os,I.bare,I.base,let ⟨m,hn,hl'⟩:=I.loc; ⟨m,hn,fun i x v e1 e2 e3=>hl' i x v e1 (w i v e2) e3⟩,I.cell,I.free,I.freeC,I.pin,I.hok,hl.trans I.len⟩
theorem Inv.pins_of {pins':List (Addr × Obj)} (I:Inv X pins σ H s) (h:∀ p ∈ pins',s.heap.get? p.1 = some p.2∧H p.1 = none∧p.1≠X.env.locals∧p.1 ∉ X.fs∧∀ v,p.2.data≠.cell v):Inv X pins' σ H s :=
 ⟨I.ok,I.os,I.bare,I.base,I.loc,I.cell,I.free,I.freeC,fun p hp=>(List.mem_append.mp hp).elim (fun z=>I.pin p (List.mem_append_left _ z)) (h p),I.hok,I.len⟩
theorem nodup_ix {N:List Str} (hN:N.Nodup) {i j:Nat} {x:Str} (a:N[i]? = some x) (b:N[j]? = some x):i = j:=by
 obtain ⟨h1,e1⟩:=List.getElem?_eq_some_iff.mp a
 obtain ⟨h2,e2⟩:=List.getElem?_eq_some_iff.mp b
 exact (List.getElem_inj hN).mp (e1.trans e2.symm)
theorem store_ok2 {M:Model} {A:Around} {E:Value→Shared→Prop} {i:Nat} {x:Str} {v:V} {u:Value} {Q:Unit→Shared→Prop} (I:Inv X pins σ H s) (hN:X.N.Nodup) (hi:X.N[i]? = some x) (hx:Loc X.env.scope x) (r:RelV v u)
  (h:∀ s',Inv X pins (σ.set i (some v)) H s'→(∃ a,Heap.SameBut a s.heap s'.heap∧(a = X.env.locals∨X.env.cells.lookup x = some a))→Q () s') (hf:X.fn x = true∨X.env.scope.names.lookup x = some .local:=by first | exact .inl rfl | exact .inr rfl | assumption):wpAny M A (storeName X.env x u) Q E s:=by
 obtain ⟨m,hn,hl⟩:=id I.loc
 have hcls:(X.env.scope.kind == .class || (X.env.scope.kind == .module && X.env.locals != X.env.globals)) = false:=by rw [I.ok.kind]; rfl
 have hiσ:i < σ.length:=by rw [I.len]; exact (List.getElem?_eq_some_iff.mp hi).1
 have cne:=I.cne
 have tracked:∀ {a:Addr} {h':Heap},(∃ o,s.heap.get? a = some o∧H a = none)→Heap.SameBut a s.heap h'→HOk X.prog X.w H h':=fun {a h'} ha hs b ob e=>by
  obtain ⟨_,_,hfree⟩:=ha
  refine (I.hok b ob e).stay (fun c w' hc q=>(hs.2 c ?_).trans q) (fun _ q=>q) fun _ _ q=>q
  rintro rfl
  rcases hc with rfl | hc
  ·rw [hfree] at e; cases e
  ·rw [hfree] at hc; cases hc
 rcases hx with hk | hk
 ·refine wpAny_storeName_local hk hn (fun h' hn' hs=>?_) hcls
  obtain ⟨oL,_,_,hoL,_⟩:=id hn
  refine h _ ⟨I.ok,I.os,I.bare,⟨fun b o e n hb hx=>?_,fun b o e n hb hx=>?_,I.base.free,fun b o e hx=>?_,I.base.tups,I.base.frzs,I.base.tbls⟩,⟨_,hn',fun j y v' e1 e2 e3=>?_⟩,fun y c e=>?_,I.free,I.freeC,fun p hp=>?_,tracked ⟨oL,hoL,I.free⟩ hs,by simpa using I.len⟩ ⟨_,hs,.inl rfl⟩
  ·exact (hs.2 b (Nat.ne_of_lt (Nat.lt_of_lt_of_le (Heap.lt_size e) I.ok.above))).trans (I.base.keep b o e n hb hx)
  ·obtain ⟨sl,e1⟩:=I.base.slot b o e n hb hx
   exact ⟨sl,(hs.2 b (Nat.ne_of_lt (Nat.lt_of_lt_of_le (Heap.lt_size e) I.ok.above))).trans e1⟩
  ·obtain ⟨o',e1⟩:=I.base.there b o e hx
   exact ⟨o',(hs.2 b (Nat.ne_of_lt (Nat.lt_of_lt_of_le (Heap.lt_size e) I.ok.above))).trans e1⟩
  ·by_cases hj:j = i
   ·subst hj
    rw [hi] at e1; cases e1
    rw [List.getElem?_set_self hiσ] at e2
    cases e2
    exact ⟨u,r,.inl ⟨hk,by simp⟩⟩
   ·rw [List.getElem?_set_ne (Ne.symm hj)] at e2
    obtain ⟨u',r',q⟩:=hl j y v' e1 e2 e3
    refine ⟨u',r',?_⟩
    rcases q with ⟨k,e⟩ | ⟨k,c,e,z⟩
    ·refine .inl ⟨k,?_⟩
     have:y≠x:=fun e=>hj (nodup_ix hN e1 (e ▸ hi))
     simp [this,e]
    ·exact .inr ⟨k,c,e,z.sameBut hs (cne y c e)⟩
  ·obtain ⟨w',z⟩:=I.cell y c e
   exact ⟨w',z.sameBut hs (cne y c e)⟩
  ·obtain ⟨e,n,ne,nf,d⟩:=I.pin p hp
   exact ⟨(hs.2 p.1 ne).trans e,n,ne,nf,d⟩
 ·have hfn:X.fn x = true:=by
   rcases hf with z | z
   ·exact z
   ·rw [z] at hk; cases hk
  obtain ⟨c,hc⟩:=I.ok.has x (.inl hk)
  obtain ⟨w',z⟩:=I.cell x c hc
  refine wpAny_storeName_cell I.ok.kind hk hc z (fun h' hc' hs=>?_)
  obtain ⟨oc,hoc,hocd⟩:=id z
  refine h { s with heap:=h' } ⟨I.ok,I.os,I.bare,⟨fun b o e n hb hx=>?_,fun b o e n hb hx=>?_,I.base.free,fun b o e hx=>?_,I.base.tups,I.base.frzs,I.base.tbls⟩,⟨m,hn.sameBut hs (Ne.symm (cne x c hc)),fun j y v' e1 e2 e3=>?_⟩,fun y c' e=>?_,I.free,I.freeC,fun p hp=>?_,tracked ⟨oc,hoc,I.freeC x c hc⟩ hs,by simpa using I.len⟩ ⟨c,hs,.inr hc⟩
  ·exact (hs.2 b (Nat.ne_of_lt (Nat.lt_of_lt_of_le (Heap.lt_size e) (I.ok.cab x c hfn hc)))).trans (I.base.keep b o e n hb hx)
  ·obtain ⟨sl,e1⟩:=I.base.slot b o e n hb hx
   exact ⟨sl,(hs.2 b (Nat.ne_of_lt (Nat.lt_of_lt_of_le (Heap.lt_size e) (I.ok.cab x c hfn hc)))).trans e1⟩
  ·obtain ⟨o',e1⟩:=I.base.there b o e hx
   exact ⟨o',(hs.2 b (Nat.ne_of_lt (Nat.lt_of_lt_of_le (Heap.lt_size e) (I.ok.cab x c hfn hc)))).trans e1⟩
  ·by_cases hj:j = i
   ·subst hj
    rw [hi] at e1; cases e1
    rw [List.getElem?_set_self hiσ] at e2
    cases e2
    exact ⟨u,r,.inr ⟨.inl hk,c,hc,hc'⟩⟩
   ·rw [List.getElem?_set_ne (Ne.symm hj)] at e2
    obtain ⟨u',r',q⟩:=hl j y v' e1 e2 e3
    refine ⟨u',r',?_⟩
    rcases q with q | ⟨k,c',e,z'⟩
    ·exact .inl q
    ·refine .inr ⟨k,c',e,z'.sameBut hs ?_⟩
     rintro rfl
     exact hj (nodup_ix hN e1 (I.ok.inj _ _ _ e hc ▸ hi))
  ·by_cases hcc:c' = c
   ·subst hcc; exact ⟨_,hc'⟩
   ·obtain ⟨w2,z2⟩:=I.cell y c' e
    exact ⟨w2,z2.sameBut hs hcc⟩
  ·obtain ⟨e,n,ne,nf,d⟩:=I.pin p hp
   refine ⟨(hs.2 p.1 ?_).trans e,n,ne,nf,d⟩
   intro q
   rw [q,hoc] at e
   have q':oc = p.2:=Option.some.inj e
   exact d w' (by rw [← q']; exact hocd)
theorem store_ok {M:Model} {A:Around} {E:Value→Shared→Prop} {i:Nat} {x:Str} {v:V} {u:Value} {Q:Unit→Shared→Prop} (I:Inv X pins σ H s) (hN:X.N.Nodup) (hi:X.N[i]? = some x) (hx:Loc X.env.scope x) (r:RelV v u)
  (h:∀ s',Inv X pins (σ.set i (some v)) H s'→Q () s') (hf:X.fn x = true∨X.env.scope.names.lookup x = some .local:=by first | exact .inl rfl | exact .inr rfl | assumption):wpAny M A (storeName X.env x u) Q E s :=
 store_ok2 I hN hi hx r (fun s' I' _=>h s' I') hf
theorem Inv.call' {s':Shared} {ch:List Addr} (I:Inv X pins σ H s) (ho:s'.os = s.os) (u:Un (frs X.stack) ch H H' s.heap s'.heap) (hok:HOk X.prog X.w H' s'.heap) (hg:AllBare s'.gens)
  (hch:∀ b ∈ ch,(b ∈ X.ex∨X.s_0.heap.objs.size≤b)∧b≠X.env.locals∧(∀ x c,X.env.cells.lookup x = some c→c≠b)∧∀ p ∈ X.pn ++ pins,p.1≠b):Inv X pins σ H' s':=by
 obtain ⟨h',g',d',t',o'⟩:=s'
 have e:o' = s.os:=ho
 subst e
 exact I.call (g':=g') (t':=t') (d':=d') u hok hg hch
end
abbrev XK:=Value→Option Addr→Hp→Prop
abbrev St:=List (Option V)
abbrev VK:=V→Hp→Prop
abbrev TE:=St→Hp→VK→Prop
abbrev TT:=St→Hp→(Bool→Hp→Prop)→Prop
abbrev TA:=St→Hp→(List V→Hp→Prop)→Prop
structure Ends where
 nx:St→Hp→Prop
 rt:VK
 bk:St→Hp→Prop:=fun _ _=>False
 ct:St→Hp→Prop:=fun _ _=>False
abbrev TS:=Ends→St→Hp→Prop
def EP (X:Cx) (pins:List (Addr × Obj)) (σ:St) (Q:VK) (u:Value) (s':Shared):Prop:=∃ v H',Inv X pins σ H' s'∧RelV v u∧Q v H'
def TP (X:Cx) (pins:List (Addr × Obj)) (σ:St) (Q:Bool→Hp→Prop) (b:Bool) (s':Shared):Prop:=∃ H',Inv X pins σ H' s'∧Q b H'
def AP (X:Cx) (pins:List (Addr × Obj)) (σ:St) (Q:List V→Hp→Prop) (us:List Value) (s':Shared):Prop:=∃ vs H',Inv X pins σ H' s'∧Vals vs us∧Q vs H'
def SP (X:Cx) (pins:List (Addr × Obj)) (D:Ends) (f:Flow) (s':Shared):Prop :=
 match f with
 | .next=>∃ σ' H',Inv X pins σ' H' s'∧D.nx σ' H'
 | .brk=>∃ σ' H',Inv X pins σ' H' s'∧D.bk σ' H'
 | .cont=>∃ σ' H',Inv X pins σ' H' s'∧D.ct σ' H'
 | .ret u=>∃ v σ' H',Inv X pins σ' H' s'∧RelV v u∧D.rt v H'
def PE (X:Cx) (e:Expr) (t:TE):Prop :=
 ∀ (pins:List (Addr × Obj)) (s:Shared) (σ:St) (H:Hp) (Q:VK),Inv X pins σ H s→t σ H Q→wpAny (model X.prog X.w) X.A (eval e X.env) (EP X pins σ Q) X.xe s
def PT (X:Cx) (e:Expr) (t:TT):Prop :=
 ∀ (pins:List (Addr × Obj)) (s:Shared) (σ:St) (H:Hp) (Q:Bool→Hp→Prop),Inv X pins σ H s→t σ H Q→wpAny (model X.prog X.w) X.A (isTrue e X.env (eval e X.env)) (TP X pins σ Q) X.xe s
def PW (X:Cx) (e:Expr) (t:TT):Prop :=
 ∀ (whole:Sem Value) (pins:List (Addr × Obj)) (s:Shared) (σ:St) (H:Hp) (Q:Bool→Hp→Prop),Inv X pins σ H s→t σ H Q→wpAny (model X.prog X.w) X.A (isTrue e X.env whole) (TP X pins σ Q) X.xe s
theorem PW.pt {X:Cx} {e:Expr} {t:TT} (h:PW X e t):PT X e t:=h _
def PA (X:Cx) (es:List Expr) (t:TA):Prop :=
 ∀ (pos:Pos) (pins:List (Addr × Obj)) (s:Shared) (σ:St) (H:Hp) (Q:List V→Hp→Prop),Inv X pins σ H s→t σ H Q→wpAny (model X.prog X.w) X.A (spliced (backTo pos (starEach es X.env))) (AP X pins σ Q) X.xe s
def PS (X:Cx) (st:Stmt) (t:TS):Prop :=
 ∀ (pins:List (Addr × Obj)) (s:Shared) (σ:St) (H:Hp) (D:Ends),Inv X pins σ H s→t D σ H→wpAny (model X.prog X.w) X.A (exec st X.env) (SP X pins D) X.xe s
def PSs (X:Cx) (st:List Stmt) (t:TS):Prop :=
 ∀ (pins:List (Addr × Obj)) (s:Shared) (σ:St) (H:Hp) (D:Ends),Inv X pins σ H s→t D σ H→wpAny (model X.prog X.w) X.A (execs st X.env) (SP X pins D) X.xe s
theorem thn {α:Type} {t:Sem α} {Q Q':α→Shared→Prop} {M:Model} {A:Around} {E:Value→Shared→Prop} {s:Shared} (h:wpAny M A t Q E s) (hQ:∀ a s,Q a s→Q' a s):wpAny M A t Q' E s:=wpAny_mono h hQ fun _ _ x=>x
end L2
namespace L2
open PySem PySem.Spec PyProof.Rows
section
variable {X:Cx}
def tVar (i:Nat):TE:=fun σ H Q=>∃ v,σ[i]? = some (some v)∧Q v H
def tC (v:V):TE:=fun _ H Q=>Q v H
theorem pe_var {i:Nat} {x:Str} {pos:Pos} (hN:X.N[i]? = some x) (hv:Vis X.env.scope x) (hd:(x == ("__debug__":Str)) = false:=by decide) (hcd:(x == ("__classdict__":Str)) = false:=by decide):PE X (.Name x pos) (tVar i):=by
 intro pins s σ H Q I h
 obtain ⟨v,e,h⟩:=h
 obtain ⟨m,hn,hl⟩:=I.loc
 obtain ⟨u,r,l⟩:=hl i x v hN e hv
 have fin:EP X pins σ Q u s:=⟨v,H,I,r,h⟩
 rcases l with ⟨hk,hm⟩ | ⟨hk,c,hc,hcell⟩
 ·exact wpAny_Name (wpAny_loadName_local I.ok.kind hk hn hm fin) hd
 ·rcases hk with hk | hk
  ·exact wpAny_Name (wpAny_loadName_cell I.ok.kind hk hc hcell fin) hd
  ·exact wpAny_Name (wpAny_loadName_free I.ok.kind hk hc hcell fin hcd) hd
theorem pe_int {i j pos}:PE X (.Constant (.int i) j pos) (tC (.int i)):=fun _ _ _ H _ I h=>wpAny_Constant_int ⟨.int i,H,I.tok _,⟨_,rfl⟩,h⟩
theorem pe_bl {b j pos}:PE X (.Constant (.bool b) j pos) (tC (.bl b)):=fun _ _ _ H _ I h=>Constant_bool ⟨.bl b,H,I,rfl,h⟩
theorem pe_non {j pos}:PE X (.Constant .none j pos) (tC .non):=fun _ _ _ H _ I h=>Constant_none ⟨.non,H,I,rfl,h⟩
theorem pe_str {x j pos}:PE X (.Constant (.str x) j pos) (tC (.str x)):=fun _ _ _ H _ I h=>Calls.Constant_str ⟨.str x,H,I.tok _,⟨_,rfl⟩,h⟩
def Gl (X:Cx) (x:Str):Prop:=X.env.kindOf x = some .globalImplicit
theorem ld_glob {E:Value→Shared→Prop} {pins:List (Addr × Obj)} {s:Shared} {σ:St} {H:Hp} {x:Str} {u:Value} {pos:Pos} {Q:Value→Shared→Prop} (I:Inv X pins σ H s) (hg:Gl X x) (hm:X.mg x = some u) (h:Q u s)
  (hd:(x == ("__debug__":Str)) = false:=by decide):wpAny (model X.prog X.w) X.A (eval (.Name x pos) X.env) Q E s :=
 Calls.Name_function_global I.ok.kind hg (Calls.loadGlobal_global (by rw [I.ok.glob]; exact I.mod.glob.keeps I.bk) hm h) hd
theorem ld_blt {E:Value→Shared→Prop} {pins:List (Addr × Obj)} {s:Shared} {σ:St} {H:Hp} {x:Str} {u:Value} {pos:Pos} {Q:Value→Shared→Prop} (I:Inv X pins σ H s) (hg:Gl X x) (hm:X.mg x = none) (hv:bootBuiltins x = some u) (h:Q u s)
  (hn:x≠"__name__":=by decide) (hd:(x == ("__debug__":Str)) = false:=by decide):wpAny (model X.prog X.w) X.A (eval (.Name x pos) X.env) Q E s:=by
 obtain ⟨mb,h1,h2⟩:=I.mod.blt
 exact Calls.Name_function_global I.ok.kind hg (Calls.loadGlobal_builtin (by rw [I.ok.glob]; exact I.mod.glob.keeps I.bk) hm (by rw [I.ok.blt]; exact h1.keeps I.bk) ((h2 x hn).trans hv) h) hd
theorem pe_glob {x:Str} {v:V} {u:Value} {pos:Pos} (hg:Gl X x) (hm:X.mg x = some u) (r:RelV v u) (hd:(x == ("__debug__":Str)) = false:=by decide):PE X (.Name x pos) (tC v) :=
 fun _ _ _ H _ I h=>ld_glob I hg hm ⟨v,H,I,r,h⟩ hd
theorem pe_bltn {x:Str} {v:V} {u:Value} {pos:Pos} (hg:Gl X x) (hm:X.mg x = none) (hv:bootBuiltins x = some u) (r:RelV v u) (hn:x≠"__name__":=by decide) (hd:(x == ("__debug__":Str)) = false:=by decide):PE X (.Name x pos) (tC v) :=
 fun _ _ _ H _ I h=>ld_blt I hg hm hv ⟨v,H,I,r,h⟩ hn hd
variable {a b:Expr} {ta tb:TE} {pos:Pos}
def PC (X:Cx) (op:CmpOp) (a b:Expr) (t:TE):Prop :=
 ∀ (pins:List (Addr × Obj)) (s:Shared) (σ:St) (H:Hp) (Q:VK),Inv X pins σ H s→t σ H Q →
  wpAny (model X.prog X.w) X.A (eval a X.env) (fun v s₁=>wpAny (model X.prog X.w) X.A (eval b X.env) (fun u s₂=>wpAny (model X.prog X.w) X.A (compareOp op v u) (EP X pins σ Q) X.xe s₂) X.xe s₁) X.xe s
theorem nobehind (b:Expr) {op:CmpOp} (h:op≠.In) (h2:op≠.NotIn):behindInMarks op b = false:=by
 have e1:(op == CmpOp.In) = false:=by cases op <;> first | rfl | exact absurd rfl h
 have e2:(op == CmpOp.NotIn) = false:=by cases op <;> first | rfl | exact absurd rfl h2
 cases b <;> simp [behindInMarks,e1,e2]
def tIsN (ta:TE):TE:=fun σ H Q=>ta σ H fun x H1=>Q (.bl (decide (x = .non))) H1
def tNotN (ta:TE):TE:=fun σ H Q=>ta σ H fun x H1=>Q (.bl (!decide (x = .non))) H1
theorem RelV.none_iff {x:V} {v:Value} (r:RelV x v):(v == Value.none) = decide (x = .non):=by
 cases x with
 | non=>cases r; rfl
 | bl _=>cases r; rfl
 | int _=>obtain ⟨t,rfl⟩:=r; rfl
 | str _=>obtain ⟨t,rfl⟩:=r; rfl
 | byt _=>obtain ⟨t,rfl⟩:=r; rfl
 | flt _=>obtain ⟨t,rfl⟩:=r; rfl
 | ref _=>cases r; rfl
 | ty _=>cases r; rfl
theorem pc_isN {j pos'} (ha:PE X a ta):PC X .Is a (.Constant .none j pos') (tIsN ta):=by
 intro pins s σ H Q I h
 refine thn (ha pins s σ H _ I h) fun v s1 ⟨x,H1,I1,r1,q1⟩=>?_
 exact Constant_none (is_none_gen ⟨.bl _,H1,I1,by rw [r1.none_iff]; rfl,q1⟩)
theorem pc_notN {j pos'} (ha:PE X a ta):PC X .IsNot a (.Constant .none j pos') (tNotN ta):=by
 intro pins s σ H Q I h
 refine thn (ha pins s σ H _ I h) fun v s1 ⟨x,H1,I1,r1,q1⟩=>?_
 exact Constant_none (isnot_none_gen ⟨.bl _,H1,I1,by rw [r1.none_iff]; rfl,q1⟩)
def tB (t:TE):TT:=fun σ H Q=>t σ H fun x H1=>∃ c,x = .bl c∧Q c H1
theorem pt_cmp {op:CmpOp} {t:TE} (h:PC X op a b t) (h1:behindInMarks op b = false:=by first | exact nobehind _ (by decide) (by decide) | rfl):PT X (.Compare a [op] [b] pos) (tB t):=by
 intro pins s σ H Q I hw
 refine wpAny_isTrue_Compare1 (thn (h pins s σ H _ I hw) fun v s1 h1=>thn h1 fun u s2 h2=>thn h2 fun c s3 ⟨x,H1,I1,r1,q1⟩=>?_) h1
 obtain ⟨d,rfl,q⟩:=q1
 cases r1
 exact wpAny_truthy_bool ⟨H1,I1,q⟩
theorem pt_val {e:Expr} {t:TE} (h:PE X e t) (he:∀ whole,isTrue e X.env whole = (do let v ← whole; standAt e.pos; holding [v] (truthy v)):=by intro _; rfl):PT X e (tB t):=by
 intro pins s σ H Q I hw
 refine isTrue_plain (thn (h pins s σ H _ I hw) fun v s1 ⟨x,H1,I1,r1,q1⟩=>?_) (he _)
 obtain ⟨d,rfl,q⟩:=q1
 cases r1
 exact wpAny_truthy_bool ⟨H1,I1,q⟩
variable {tA tB':TT} {rest:List Expr}
def tAnd (t u:TT):TT:=fun σ H Q=>t σ H fun c H1=>if c = true then u σ H1 Q else Q false H1
def tOr (t u:TT):TT:=fun σ H Q=>t σ H fun c H1=>if c = true then Q true H1 else u σ H1 Q
def tNot (t:TT):TT:=fun σ H Q=>t σ H fun c H1=>Q (!c) H1
theorem pw_and1 (ha:PT X a tA):PW X (.BoolOp .And [a] pos) tA:=by
 intro wh pins s σ H Q I h
 refine isTrue_and (thn (ha pins s σ H Q I h) fun c s1 e=>?_)
 cases c with
 | true=>exact isTrue_and_nil e
 | false=>exact e
theorem pw_or1 (ha:PT X a tA):PW X (.BoolOp .Or [a] pos) tA:=by
 intro wh pins s σ H Q I h
 refine isTrue_or (thn (ha pins s σ H Q I h) fun c s1 e=>?_)
 cases c with
 | false=>exact isTrue_or_nil e
 | true=>exact e
theorem pw_and (ha:PT X a tA) (hb:PW X (.BoolOp .And (b :: rest) pos) tB'):PW X (.BoolOp .And (a :: b :: rest) pos) (tAnd tA tB'):=by
 intro wh pins s σ H Q I h
 refine isTrue_and (thn (ha pins s σ H _ I h) fun c s1 ⟨H1,I1,q1⟩=>?_)
 cases c with
 | true=>exact hb wh pins s1 σ H1 Q I1 q1
 | false=>exact ⟨H1,I1,q1⟩
theorem pw_or (ha:PT X a tA) (hb:PW X (.BoolOp .Or (b :: rest) pos) tB'):PW X (.BoolOp .Or (a :: b :: rest) pos) (tOr tA tB'):=by
 intro wh pins s σ H Q I h
 refine isTrue_or (thn (ha pins s σ H _ I h) fun c s1 ⟨H1,I1,q1⟩=>?_)
 cases c with
 | true=>exact ⟨H1,I1,q1⟩
 | false=>exact hb wh pins s1 σ H1 Q I1 q1
theorem pt_not (ha:PT X a tA):PT X (.UnaryOp .Not a pos) (tNot tA):=by
 intro pins s σ H Q I h
 exact isTrue_not (ha pins s σ H (fun c H1=>Q (!c) H1) I h)
def tAndV (ta tb:TE):TE:=fun σ H Q=>ta σ H fun x H1=>∃ c,x = .bl c∧if c = true then tb σ H1 Q else Q (.bl false) H1
def tOrV (ta tb:TE):TE:=fun σ H Q=>ta σ H fun x H1=>∃ c,x = .bl c∧if c = true then Q (.bl true) H1 else tb σ H1 Q
theorem pe_one {op} {t:TE} (h:PE X a t):PE X (.BoolOp op [a] pos) t:=fun pins s σ H Q I hw=>BoolOp_one (h pins s σ H Q I hw)
theorem pe_and (ha:PE X a ta) (hb:PE X (.BoolOp .And (b :: rest) pos) tb):PE X (.BoolOp .And (a :: b :: rest) pos) (tAndV ta tb):=by
 intro pins s σ H Q I h
 refine BoolOp_and (thn (ha pins s σ H _ I h) fun v s1 ⟨x,H1,I1,r1,q1⟩=>?_)
 obtain ⟨c,rfl,q1⟩:=q1
 cases r1
 refine wpAny_truthy_bool ?_
 cases c with
 | true=>exact hb pins s1 σ H1 Q I1 q1
 | false=>exact ⟨.bl false,H1,I1,rfl,q1⟩
theorem pe_or (ha:PE X a ta) (hb:PE X (.BoolOp .Or (b :: rest) pos) tb):PE X (.BoolOp .Or (a :: b :: rest) pos) (tOrV ta tb):=by
 intro pins s σ H Q I h
 refine BoolOp_or (thn (ha pins s σ H _ I h) fun v s1 ⟨x,H1,I1,r1,q1⟩=>?_)
 obtain ⟨c,rfl,q1⟩:=q1
 cases r1
 refine wpAny_truthy_bool ?_
 cases c with
 | false=>exact hb pins s1 σ H1 Q I1 q1
 | true=>exact ⟨.bl true,H1,I1,rfl,q1⟩
def tIf (t:TT) (ta tb:TE):TE:=fun σ H Q=>t σ H fun c H1=>if c = true then ta σ H1 Q else tb σ H1 Q
theorem pe_ifExp {c:Expr} (hc:PT X c tA) (ha:PE X a ta) (hb:PE X b tb):PE X (.IfExp c a b pos) (tIf tA ta tb):=by
 intro pins s σ H Q I h
 refine wpAny_IfExp (thn (hc pins s σ H _ I h) fun d s1 ⟨H1,I1,q1⟩=>?_)
 cases d with
 | true=>exact ha pins s1 σ H1 Q I1 q1
 | false=>exact hb pins s1 σ H1 Q I1 q1
end
end L2
namespace L2
open PySem PySem.Spec PyProof.Rows
def SqL (K:PySem.W.Frag) (H:Hp) (a:Addr) (xs:List V):Prop :=
 Rd H a (.lst xs) ∨
  ∃ (o:Obj) (its:Array Value) (n:Nat),K.lookup a = some o∧o.cls = .type "list"∧o.dict = none∧o.data = .seq its n∧its.size≤sizeLine∧Vals xs its.toList
def SqT (K:PySem.W.Frag) (H:Hp) (a:Addr) (xs:List V):Prop :=
 Rd H a (.tup xs) ∨
  ∃ (o:Obj) (its:Array Value) (n:Nat),K.lookup a = some o∧o.cls = .type "tuple"∧o.data = .seq its n∧its.size≤sizeLine∧Vals xs its.toList
def absV:Value→Option V
 | .none=>some .non
 | .bool b=>some (.bl b)
 | .int i _=>some (.int i)
 | .str x _=>some (.str x)
 | .bytes b _=>some (.byt b)
 | .float b _=>some (.flt b)
 | .ref a=>some (.ref a)
 | .type n=>some (.ty n)
 | _=>none
theorem RelV.abs {x:V} {u:Value} (r:RelV x u):absV u = some x:=by
 cases x with
 | non=>cases r; rfl
 | bl _=>cases r; rfl
 | int _=>obtain ⟨t,rfl⟩:=r; rfl
 | str _=>obtain ⟨t,rfl⟩:=r; rfl
 | byt _=>obtain ⟨t,rfl⟩:=r; rfl
 | flt _=>obtain ⟨t,rfl⟩:=r; rfl
 | ref _=>cases r; rfl
 | ty _=>cases r; rfl
theorem RelV.inj {x y:V} {u:Value} (r:RelV x u) (q:RelV y u):x = y:=Option.some.inj (r.abs.symm.trans q.abs)
theorem Vals.inj:∀ {xs ys:List V} {us:List Value},Vals xs us→Vals ys us→xs = ys
 | _,_,_,.nil,.nil=>rfl
 | _,_,_,.cons r t,.cons r' t'=>by rw [r.inj r',Vals.inj t t']
section
variable {X:Cx} {pins:List (Addr × Obj)} {σ:St} {H:Hp} {s:Shared} {a:Addr} {xs ys:List V}
theorem SqL.of {K:PySem.W.Frag} (h:H a = some (.lst xs)):SqL K H a xs:=.inl (.inl h)
theorem SqT.of {K:PySem.W.Frag} (h:H a = some (.tup xs)):SqT K H a xs:=.inl (.inl h)
theorem Inv.list (I:Inv X pins σ H s) (h:SqL X.K H a xs):∃ its:List Value,Vals xs its∧PlainL s.heap a its.toArray∧xs.length≤sizeLine:=by
 rcases h with h | ⟨o,its,n,hk,hc,hd,hs,hz,r⟩
 ·obtain ⟨z,its,n,r,e⟩:=h.ok I.hok
  exact ⟨its,r,⟨_,n,e,rfl,rfl,rfl⟩,z⟩
 ·refine ⟨its.toList,r,⟨o,n,I.kIn a o hk,hc,hd,by simpa using hs⟩,?_⟩
  have e:=r.length
  simp only [Array.length_toList] at e
  omega
theorem Inv.tuple (I:Inv X pins σ H s) (h:SqT X.K H a xs):∃ its:List Value,Vals xs its∧IsTup s.heap a its.toArray∧xs.length≤sizeLine:=by
 rcases h with h | ⟨o,its,n,hk,hc,hs,hz,r⟩
 ·obtain ⟨z,its,r,p⟩:=h.ok I.hok
  exact ⟨its,r,p,z⟩
 ·refine ⟨its.toList,r,⟨o,I.kIn a o hk,hc,n,by simpa using hs⟩,?_⟩
  have e:=r.length
  simp only [Array.length_toList] at e
  omega
theorem Inv.list_inj (I:Inv X pins σ H s) (h:SqL X.K H a xs) (h':SqL X.K H a ys):xs = ys:=by
 obtain ⟨its,r,⟨o,n,e,_,_,d⟩,_⟩:=I.list h
 obtain ⟨its',r',⟨o',n',e',_,_,d'⟩,_⟩:=I.list h'
 rw [e] at e'; cases e'
 rw [d] at d'
 injection d' with d1 _
 have:its = its':=by simpa using congrArg Array.toList d1
 subst this
 exact r.inj r'
theorem Inv.tuple_inj (I:Inv X pins σ H s) (h:SqT X.K H a xs) (h':SqT X.K H a ys):xs = ys:=by
 obtain ⟨its,r,⟨o,e,_,n,d⟩,_⟩:=I.tuple h
 obtain ⟨its',r',⟨o',e',_,n',d'⟩,_⟩:=I.tuple h'
 rw [e] at e'; cases e'
 rw [d] at d'
 injection d' with d1 _
 have:its = its':=by simpa using congrArg Array.toList d1
 subst this
 exact r.inj r'
end
abbrev Cx.wish (X:Cx) (E:Value→Shared→Prop):Cx:={ X with xe:=E }
abbrev Cx.nox (X:Cx):Cx:=X.wish fun _ _=>False
theorem Cx.Ok.wish {X:Cx} (ok:X.Ok) (E:Value→Shared→Prop):(X.wish E).Ok :=
 ⟨ok.mod,ok.kind,ok.glob,ok.blt,ok.above,ok.inj,ok.has,ok.cab,ok.hd,ok.frames,ok.stk,ok.exf,ok.bs,ok.bsz,ok.noex,ok.exfs,ok.funs,ok.frf⟩
theorem Cx.Ok.unwish {X:Cx} {E:Value→Shared→Prop} (ok:(X.wish E).Ok):X.Ok :=
 ⟨ok.mod,ok.kind,ok.glob,ok.blt,ok.above,ok.inj,ok.has,ok.cab,ok.hd,ok.frames,ok.stk,ok.exf,ok.bs,ok.bsz,ok.noex,ok.exfs,ok.funs,ok.frf⟩
section
variable {X:Cx} {pins:List (Addr × Obj)} {σ:St} {H:Hp} {s:Shared} {E:Value→Shared→Prop}
theorem Inv.wish (I:Inv X pins σ H s) (E:Value→Shared→Prop):Inv (X.wish E) pins σ H s:=⟨I.ok.wish E,I.os,I.bare,I.base,I.loc,I.cell,I.free,I.freeC,I.pin,I.hok,I.len⟩
theorem Inv.unwish (I:Inv (X.wish E) pins σ H s):Inv X pins σ H s:=⟨I.ok.unwish,I.os,I.bare,I.base,I.loc,I.cell,I.free,I.freeC,I.pin,I.hok,I.len⟩
theorem SP.unwish {D:Ends} {f:Flow} {s':Shared} (h:SP (X.wish E) pins D f s'):SP X pins D f s':=by
 cases f with
 | next=>obtain ⟨σ',H',I,q⟩:=h; exact ⟨σ',H',I.unwish,q⟩
 | brk=>obtain ⟨σ',H',I,q⟩:=h; exact ⟨σ',H',I.unwish,q⟩
 | cont=>obtain ⟨σ',H',I,q⟩:=h; exact ⟨σ',H',I.unwish,q⟩
 | ret u=>obtain ⟨v,σ',H',I,r,q⟩:=h; exact ⟨v,σ',H',I.unwish,r,q⟩
theorem PSs.nox {st:List Stmt} {t:TS} (h:PSs X.nox st t):PSs X st t:=fun pins s σ H D I hw =>
 wpAny_mono (h pins s σ H D (I.wish _) hw) (fun _ _ q=>q.unwish) fun _ _ z=>False.elim z
end
section
variable {X:Cx} {st:Stmt} {rest:List Stmt} {t u:TS} {e:Expr} {te:TE} {pos:Pos}
def tNext:TS:=fun D σ H=>D.nx σ H
def tSeq (t u:TS):TS:=fun D σ H=>t { D with nx:=u D } σ H
theorem pss_nil:PSs X [] tNext:=fun _ _ σ H _ I h=>wpAny_execs_nil ⟨σ,H,I,h⟩
theorem pss_cons (h1:PS X st t) (h2:PSs X rest u):PSs X (st :: rest) (tSeq t u):=by
 intro pins s σ H D I h
 refine wpAny_execs_cons (thn (h1 pins s σ H { D with nx:=u D } I h) fun f s1 q=>?_)
 cases f with
 | next =>
  obtain ⟨σ',H',I',q⟩:=q
  exact h2 pins s1 σ' H' D I' q
 | ret v=>exact q
 | brk=>exact q
 | cont=>exact q
theorem pss_one (h1:PS X st t):PSs X [st] t:=by
 intro pins s σ H D I h
 refine wpAny_execs_cons (thn (h1 pins s σ H D I h) fun f s1 q=>?_)
 cases f with
 | next=>exact wpAny_execs_nil q
 | ret v=>exact q
 | brk=>exact q
 | cont=>exact q
def tCont:TS:=fun D σ H=>D.ct σ H
theorem ps_continue:PS X (.Continue pos) tCont:=fun _ _ σ H _ I h=>wpAny_Continue ⟨σ,H,I,h⟩
theorem Inv.quiet {pins:List (Addr × Obj)} {σ:St} {H:Hp} {s:Shared} (I:Inv X pins σ H s):interactive X.env = false:=by simp [interactive,I.ok.kind]
def tDrop (te:TE):TS:=fun D σ H=>te σ H fun _ H1=>D.nx σ H1
theorem ps_expr (he:PE X e te) (hs:swapsWith e none pos.line X.env = pure false:=by rfl):PS X (.Expr e pos) (tDrop te):=by
 intro pins s σ H D I h
 exact wpAny_Expr_any (thn (he pins s σ H _ I h) fun v s1 ⟨x,H1,I1,r1,q1⟩=>⟨σ,H1,I1,q1⟩) I.quiet hs
def tRet (te:TE):TS:=fun D σ H=>te σ H D.rt
theorem ps_ret (he:PE X e te):PS X (.Return (some e) pos) (tRet te):=by
 intro pins s σ H D I h
 exact wpAny_Return_some (thn (he pins s σ H _ I h) fun v s1 ⟨x,H1,I1,r1,q1⟩=>⟨x,σ,H1,I1,r1,q1⟩)
def tIfS (c:TT) (t u:TS):TS:=fun D σ H=>c σ H fun b H1=>if b = true then t D σ H1 else u D σ H1
theorem ps_if {c:Expr} {a b:List Stmt} {tc:TT} (hc:PT X c tc) (ha:PSs X a t) (hb:PSs X b u):PS X (.If c a b pos) (tIfS tc t u):=by
 intro pins s σ H D I h
 refine wpAny_If (thn (hc pins s σ H _ I h) fun d s1 ⟨H1,I1,q1⟩=>?_)
 cases d with
 | true=>exact ha pins s1 σ H1 D I1 q1
 | false=>exact hb pins s1 σ H1 D I1 q1
end
abbrev TG:=V→St→Hp→(St→Hp→Prop)→Prop
abbrev TGs:=List V→St→Hp→(St→Hp→Prop)→Prop
def PG (X:Cx) (target:Expr) (t:TG):Prop :=
 ∀ (pins:List (Addr × Obj)) (s:Shared) (σ:St) (H:Hp) (v:V) (u:Value) (Q:St→Hp→Prop),Inv X pins σ H s→RelV v u→t v σ H Q →
  wpAny (model X.prog X.w) X.A (assign target X.env u) (fun _ s'=>∃ σ' H',Inv X pins σ' H' s'∧Q σ' H') X.xe s
def PGs (X:Cx) (ts:List Expr) (t:TGs):Prop :=
 ∀ (pins:List (Addr × Obj)) (s:Shared) (σ:St) (H:Hp) (vs:List V) (us:List Value) (Q:St→Hp→Prop),Inv X pins σ H s→Vals vs us→t vs σ H Q →
  wpAny (model X.prog X.w) X.A (assignInOrder ((assignEach ts X.env).map (·.2)) us) (fun _ s'=>∃ σ' H',Inv X pins σ' H' s'∧Q σ' H') X.xe s
abbrev TIp:=V→V→Hp→VK→Prop
def PIp (X:Cx) (op:Operator) (t:TIp):Prop :=
 ∀ (pins:List (Addr × Obj)) (s:Shared) (σ:St) (H:Hp) (x y:V) (v u:Value) (Q:VK),Inv X pins σ H s→RelV x v→RelV y u→t x y H Q →
  wpAny (model X.prog X.w) X.A (inplaceOp op v u) (EP X pins σ Q) X.xe s
section
variable {X:Cx} {pos:Pos}
def gName (i:Nat):TG:=fun v σ H Q=>Q (σ.set i (some v)) H
theorem pg_name {i:Nat} {x:Str} (hN:X.N.Nodup) (hi:X.N[i]? = some x) (hx:Loc X.env.scope x) (hf:X.fn x = true∨X.env.scope.names.lookup x = some .local:=by first | exact .inl rfl | exact .inr rfl | assumption):PG X (.Name x pos) (gName i):=by
 intro pins s σ H v u Q I r h
 exact wpAny_assign_Name (store_ok I hN hi hx r (fun s' I'=>⟨_,H,I',h⟩) hf)
def gNil:TGs:=fun vs σ H Q=>vs = []∧Q σ H
def gCons (t:TG) (u:TGs):TGs:=fun vs σ H Q=>∃ v r,vs = v :: r∧t v σ H fun σ' H'=>u r σ' H' Q
theorem pgs_nil:PGs X [] gNil:=by
 intro pins s σ H vs us Q I r h
 obtain ⟨e,h⟩:=h
 subst e
 cases r
 exact assignInOrder_nil ⟨σ,H,I,h⟩
theorem pgs_cons {e:Expr} {es:List Expr} {t:TG} {u:TGs} (h1:PG X e t) (h2:PGs X es u)
  (hs:(assignEach (e :: es) X.env).map (·.2) = assign e X.env :: (assignEach es X.env).map (·.2):=by rfl):PGs X (e :: es) (gCons t u):=by
 intro pins s σ H vs us Q I r h
 obtain ⟨v,vr,e1,h⟩:=h
 subst e1
 cases r with
 | cons r rr =>
  rw [hs]
  refine assignInOrder_cons (thn (h1 pins s σ H _ _ _ I r h) fun _ s1 ⟨σ1,H1,I1,q1⟩=>?_)
  exact h2 pins s1 σ1 H1 _ _ Q I1 rr q1
def gTup (K:PySem.W.Frag) (n:Nat) (t:TGs):TG:=fun v σ H Q=>∃ a xs,v = .ref a∧SqT K H a xs∧xs.length = n∧t xs σ H Q
theorem pg_tup {es:List Expr} {k:Nat} {t:TGs} {n:Nat} (hc:X.calm = true) (h:PGs X es t)
  (hn:(assignEach es X.env).length = n:=by rfl) (hst:(assignEach es X.env).findIdx? (·.1) = none:=by rfl):PG X (.Tuple es k pos) (gTup X.K n t):=by
 intro pins s σ H v u Q I r hw
 obtain ⟨a,xs,e1,hq,hl,hw⟩:=hw
 subst e1
 cases r
 obtain ⟨its,rv,ht,hz⟩:=I.tuple hq
 refine assign_Tuple_tuple (I.ok.hd hc) ht (by simp [hn,← hl,rv.length]) hst fun h' hx=>?_
 have I1:Inv X pins σ H { s with heap:=h' }:=I.kept (t':=s.toks) fun b o e=>hx b o (Nat.ne_of_lt (Heap.lt_size e)) e
 exact h pins _ σ H xs _ Q I1 (by simpa using rv) hw
def tAsg (te:TE) (g:TG):TS:=fun D σ H=>te σ H fun x H1=>g x σ H1 D.nx
theorem ps_set {i:Nat} {x:Str} {e:Expr} {te:TE} {pos':Pos} (hN:X.N.Nodup) (hi:X.N[i]? = some x) (hx:Loc X.env.scope x) (he:PE X e te) (hs:swapsWith e (some (.Name x pos')) pos.line X.env = pure false:=by rfl) (hf:X.fn x = true∨X.env.scope.names.lookup x = some .local:=by first | exact .inl rfl | exact .inr rfl | assumption) :
  PS X (.Assign [.Name x pos'] e pos) (tAsg te (gName i)):=by
 intro pins s σ H D I h
 refine wpAny_Assign_Name (thn (he pins s σ H _ I h) fun v s1 ⟨y,H1,I1,r1,q1⟩=>?_) hs
 exact store_ok I1 hN hi hx r1 (fun s2 I2=>⟨_,H1,I2,q1⟩) hf
def tAug (i:Nat) (te:TE) (ti:TIp):TS:=fun D σ H=>∃ x,σ[i]? = some (some x)∧te σ H fun y H1=>ti x y H1 fun z H2=>D.nx (σ.set i (some z)) H2
theorem ps_aug {i:Nat} {x:Str} {e:Expr} {te:TE} {op:Operator} {ti:TIp} {pos':Pos} (hN:X.N.Nodup) (hi:X.N[i]? = some x) (hx:Loc X.env.scope x) (he:PE X e te) (ho:PIp X op ti) (hf:X.fn x = true∨X.env.scope.names.lookup x = some .local:=by first | exact .inl rfl | exact .inr rfl | assumption) :
  PS X (.AugAssign (.Name x pos') op e pos) (tAug i te ti):=by
 intro pins s σ H D I h
 obtain ⟨v,e1,h⟩:=h
 obtain ⟨m,hn,hl⟩:=I.loc
 have vis:Vis X.env.scope x:=by rcases hx with k | k; exact .inl k; exact .inr (.inl k)
 obtain ⟨u,r,l⟩:=hl i x v hi e1 vis
 refine wpAny_AugAssign_Name ?_
 have go:wpAny (model X.prog X.w) X.A (eval e X.env) (fun w s₂=>wpAny (model X.prog X.w) X.A (inplaceOp op u w) (fun r s₃=>wpAny (model X.prog X.w) X.A (storeName X.env x r) (fun _=>SP X pins D .next) X.xe s₃) X.xe s₂) X.xe s:=by
  refine thn (he pins s σ H _ I h) fun w s1 ⟨y,H1,I1,r1,q1⟩=>?_
  refine thn (ho pins s1 σ H1 v y u w _ I1 r r1 q1) fun z s2 ⟨zv,H2,I2,r2,q2⟩=>?_
  exact store_ok I2 hN hi hx r2 (fun s3 I3=>⟨_,H2,I3,q2⟩) hf
 rcases l with ⟨hk,hm⟩ | ⟨hk,c,hc,hcell⟩
 ·exact wpAny_loadName_local I.ok.kind hk hn hm go
 ·rcases hk with hk | hk
  ·exact wpAny_loadName_cell I.ok.kind hk hc hcell go
  ·rcases hx with k | k
   ·have:X.env.scope.names.lookup x = some .free:=hk
    rw [k] at this; cases this
   ·have:X.env.scope.names.lookup x = some .free:=hk
    rw [k] at this; cases this
def ipI (f:Int→Int→Int):TIp:=fun x y H Q=>∃ i j,x = .int i∧y = .int j∧Q (.int (f i j)) H
theorem ip_add:PIp X .Add (ipI fun i j=>i + j):=by
 intro pins s σ H x y v u Q I r1 r2 h
 obtain ⟨i,j,e1,e2,q⟩:=h
 subst e1; subst e2
 obtain ⟨t,rfl⟩:=r1
 obtain ⟨t',rfl⟩:=r2
 exact iadd_int ⟨.int _,H,I.tok _,⟨_,rfl⟩,q⟩
end
section
variable {X:Cx} {pos:Pos}
def tWhile (c:TT) (tb:TS):TS:=fun D σ H=>∃ W:Nat→St→Hp→Prop,(∃ m,W m σ H)∧∀ m σ H,W m σ H →
 c σ H fun b H1=>if b = true then ∃ N:St→Hp→Prop,(∀ σ' H',N σ' H'→∃ m',m' < m∧W m' σ' H')∧tb { D with nx:=N,ct:=N,bk:=D.nx } σ H1 else D.nx σ H1
theorem ps_while {c:Expr} {body:List Stmt} {tc:TT} {tb:TS} (hp:PassesOwn (model X.prog X.w) X.A X.env X.xe) (hc:PT X c tc) (hb:PSs X body tb):PS X (.While c body [] pos) (tWhile tc tb):=by
 intro pins s σ H D I h
 obtain ⟨W,⟨m0,w0⟩,turn⟩:=h
 refine wpAny_While (codeAny_whileLoop (fun n s'=>∃ σ' H',Inv X pins σ' H' s'∧W n σ' H') ?_ m0 ⟨σ,H,I,w0⟩)
 rintro n s1 ⟨σ1,H1,I1,w1⟩
 refine wpAny_passesOwn hp (thn (hc pins s1 σ1 H1 _ I1 (turn n σ1 H1 w1)) fun b s2 ⟨H2,I2,q2⟩=>?_)
 cases b with
 | true =>
  obtain ⟨N,hN,q2⟩:=q2
  rw [if_pos rfl]
  refine wpAny_passesOwn hp (thn (hb pins s2 σ1 H2 _ I2 q2) fun f s3 q3=>?_)
  cases f with
  | next =>
   obtain ⟨σ3,H3,I3,n3⟩:=q3
   obtain ⟨m',hm,w3⟩:=hN σ3 H3 n3
   exact ⟨m',hm,σ3,H3,I3,w3⟩
  | cont =>
   obtain ⟨σ3,H3,I3,n3⟩:=q3
   obtain ⟨m',hm,w3⟩:=hN σ3 H3 n3
   exact ⟨m',hm,σ3,H3,I3,w3⟩
  | brk=>exact q3
  | ret v=>exact q3
 | false =>
  rw [if_neg Bool.false_ne_true]
  exact wpAny_execs_nil ⟨σ1,H2,I2,q2⟩
end
structure It where
 go:Nat→Hp→Prop
 yld:Nat→Hp→V→Hp→Prop
 stop:Nat→Hp→Prop
def FpOk (X:Cx) (pins:List (Addr × Obj)) (H:Hp) (b:Addr):Prop :=
 H b = none∧b≠X.env.locals∧b ∉ X.fs∧(b ∈ X.ex∨X.s_0.heap.objs.size≤b)∧(∀ x c,X.env.cells.lookup x = some c→c≠b)∧∀ p ∈ X.pn ++ pins,p.1≠b
theorem Inv.fpOk {X:Cx} {pins:List (Addr × Obj)} {σ:St} {H H':Hp} {s:Shared} {b:Addr} (I:Inv X pins σ H s) (hb:s.heap.objs.size≤b) (hn:H' b = none):FpOk X pins H' b:=by
 refine ⟨hn,Nat.ne_of_gt (Nat.lt_of_lt_of_le I.lt hb),I.nofs hb,.inr (Nat.le_trans I.sz hb),fun x c e z=>?_,fun p hp z=>?_⟩
 ·obtain ⟨v,q⟩:=I.cell x c e
  exact absurd (Nat.lt_of_lt_of_le q.lt (by rw [z]; exact hb)) (Nat.lt_irrefl _)
 ·exact absurd (Nat.lt_of_lt_of_le (Heap.lt_size (I.pin p hp).1) (by rw [z]; exact hb)) (Nat.lt_irrefl _)
structure Turn (P:Program) (w:World) (K:PySem.W.Frag) (tg:Expr) (J:It) (fp:List Addr) (it:Addr) (tn:Nat→Heap→Prop):Prop where
 mem:it ∈ fp
 obj:∀ i h,tn i h→∀ b ∈ fp,∃ o,h.get? b = some o∧∀ v,o.data≠.cell v
 keep:∀ i h h',tn i h→(∀ b ∈ fp,∀ o,h.get? b = some o→h'.get? b = some o)→tn i h'
 item:∀ (X:Cx),X.prog = P→X.w = w→X.K = K→X.calm = true→∀ (i:Nat) (pins:List (Addr × Obj)) (s:Shared) (σ:St) (H:Hp) (E:Value→Shared→Prop),Inv X pins σ H s→(∀ b ∈ fp,FpOk X pins H b)→tn i s.heap→J.go i H →
  wpAny (model P w) X.A (pyNext (.ref it)) (fun r s1=>∃ u,r = some u ∧
   wpAny (model P w) X.A (letOwnedTupleGo tg (.ref it) u) (fun _ s2=>∃ x H',Inv X pins σ H' s2∧RelV x u∧J.yld i H x H'∧tn (i + 1) s2.heap∧∀ b ∈ fp,H' b = none) E s1) E s
 done:∀ (X:Cx),X.prog = P→X.w = w→X.K = K→X.calm = true→∀ (i:Nat) (pins:List (Addr × Obj)) (s:Shared) (σ:St) (H:Hp) (E:Value→Shared→Prop),Inv X pins σ H s→(∀ b ∈ fp,FpOk X pins H b)→tn i s.heap→J.stop i H →
  wpAny (model P w) X.A (pyNext (.ref it)) (fun r s1=>r = none∧Inv X pins σ H s1) E s
 self:∀ (A:Around) (i:Nat) (s:Shared) (Q:Value→Shared→Prop) (E:Value→Shared→Prop),tn i s.heap→Q (.ref it) s→wpAny (model P w) A (pyIter (.ref it)) Q E s
abbrev TI:=St→Hp→(It→Hp→Prop)→Prop
def PIE (X:Cx) (pins:List (Addr × Obj)) (σ:St) (tg:Expr) (R:It→Hp→Prop) (itv:Value) (s2:Shared):Prop :=
 ∃ (it:Addr) (fp:List Addr) (tn:Nat→Heap→Prop) (J:It) (H':Hp),itv = .ref it∧Inv X pins σ H' s2∧Turn X.prog X.w X.K tg J fp it tn∧tn 0 s2.heap∧(∀ b ∈ fp,FpOk X pins H' b)∧R J H'
def PI (X:Cx) (tg iter:Expr) (wi:TI):Prop :=
 ∀ (pins:List (Addr × Obj)) (s:Shared) (σ:St) (H:Hp) (R:It→Hp→Prop),Inv X pins σ H s→wi σ H R →
  wpAny (model X.prog X.w) X.A (eval iter X.env) (fun v s1=>wpAny (model X.prog X.w) X.A (pyIter v) (PIE X pins σ tg R) X.xe s1) X.xe s
theorem go_of {M:Model} {A:Around} {E:Value→Shared→Prop} {s:Shared} {tg:Expr} {it:Addr} {u:Value} {o:Obj} {n:String} {vs:Array Value} {Q:Unit→Shared→Prop} (ho:s.heap.get? it = some o) (hc:o.cls = .type n) (hd:o.data = .fields vs)
    (hn:["enumerate","zip","dict_itemiterator","dict_reverseitemiterator","odict_iterator","itertools.zip_longest","itertools.pairwise"].contains n = false) (hQ:Q () s):wpAny M A (letOwnedTupleGo tg (.ref it) u) Q E s:=by
  unfold letOwnedTupleGo
  cases tg <;> first
    | exact wpAny_pure hQ
    | (cases u <;> first
        | exact wpAny_pure hQ
        | (refine wpAny_bind (wpAny_load ho ?_)
           rw [hc,hd]
           show wpAny M A (if (["enumerate","zip","dict_itemiterator","dict_reverseitemiterator","odict_iterator","itertools.zip_longest","itertools.pairwise"].contains n && vs[0]? == some (rawInt _)) = true then _ else _) Q E s
           rw [if_neg (by intro h; rw [hn,Bool.false_and] at h; cases h)]
           exact wpAny_pure hQ))
def Itl (K:PySem.W.Frag) (a:Addr):It :=
 ⟨fun i H=>∃ xs x,SqL K H a xs∧xs[i]? = some x,fun i H x H'=>H' = H∧∀ xs,SqL K H a xs→xs[i]? = some x,fun i H=>∃ xs,SqL K H a xs∧xs.length≤i⟩
def Itt (K:PySem.W.Frag) (a:Addr):It :=
 ⟨fun i H=>∃ xs x,SqT K H a xs∧xs[i]? = some x,fun i H x H'=>H' = H∧∀ xs,SqT K H a xs→xs[i]? = some x,fun i H=>∃ xs,SqT K H a xs∧xs.length≤i⟩
def Itr (lo:Int) (n:Nat):It:=⟨fun i _=>i < n,fun i H x H'=>H' = H∧x = .int (lo + i),fun i _=>n≤i⟩
theorem turn_list {P:Program} {w:World} {K:PySem.W.Frag} {tg:Expr} (a it:Addr):Turn P w K tg (Itl K a) [it] it (fun i h=>h.IsListIter it a i) where
 mem:=by simp
 obj:=fun i h st b hb=>by
  have e:b = it:=by simpa using hb
  subst e
  obtain ⟨o,e,c,d⟩:=st
  exact ⟨o,e,fun v z=>by rw [d] at z; cases z⟩
 keep:=fun i h h' st k=>st.at fun o e=>k it (by simp) o e
 item:=by
  intro X hP hw hK hc i pins s σ H E I hf st hg
  subst hP hw hK
  obtain ⟨xs,x,hq,hx⟩:=hg
  obtain ⟨its,rv,p,hz⟩:=I.list hq
  obtain ⟨u,hu,ru⟩:=rv.get hx
  obtain ⟨f0,f1,f2,f3,f4,f5⟩:=hf it (by simp)
  refine wpAny_pyNext_list_item st p.isList (x:=u) (by simpa using hu) fun h' st' sb=>?_
  have I1:Inv X pins σ H { s with heap:=h' }:=I.turned (t':=s.toks) (fun b o hb e=>(sb.2 b hb).trans e) f0 f1 f3 f4 f5
  obtain ⟨o,e,c,d⟩:=id st'
  exact ⟨u,rfl,go_of (s:={ s with heap:=h' }) e c d (by decide) ⟨x,H,I1,ru,⟨rfl,fun ys hy=>by rw [I.list_inj hy hq]; exact hx⟩,st',fun b hb=>(hf b hb).1⟩⟩
 done:=by
  intro X hP hw hK hc i pins s σ H E I hf st hg
  subst hP hw hK
  obtain ⟨xs,hq,hx⟩:=hg
  obtain ⟨its,rv,p,hz⟩:=I.list hq
  obtain ⟨f0,f1,f2,f3,f4,f5⟩:=hf it (by simp)
  have hl:=rv.length
  exact wpAny_pyNext_list_end (I.ok.hd hc) st p.isList (by simp; omega) fun h' eb=>⟨rfl,I.turned (t':=s.toks) (fun b o hb e=>eb b o hb e) f0 f1 f3 f4 f5⟩
 self:=fun _ _ _ _ _ st h=>wpAny_pyIter_listiter st h
theorem turn_tuple {P:Program} {w:World} {K:PySem.W.Frag} {tg:Expr} (a it:Addr):Turn P w K tg (Itt K a) [it] it (fun i h=>h.IsTupleIter it a i) where
 mem:=by simp
 obj:=fun i h st b hb=>by
  have e:b = it:=by simpa using hb
  subst e
  obtain ⟨o,e,c,d⟩:=st
  exact ⟨o,e,fun v z=>by rw [d] at z; cases z⟩
 keep:=fun i h h' st k=>st.at fun o e=>k it (by simp) o e
 item:=by
  intro X hP hw hK hc i pins s σ H E I hf st hg
  subst hP hw hK
  obtain ⟨xs,x,hq,hx⟩:=hg
  obtain ⟨its,rv,p,hz⟩:=I.tuple hq
  obtain ⟨u,hu,ru⟩:=rv.get hx
  obtain ⟨f0,f1,f2,f3,f4,f5⟩:=hf it (by simp)
  refine wpAny_pyNext_tuple_item st (show s.heap.IsTuple a its.toArray from p) (x:=u) (by simpa using hu) fun h' st' sb=>?_
  have I1:Inv X pins σ H { s with heap:=h' }:=I.turned (t':=s.toks) (fun b o hb e=>(sb.2 b hb).trans e) f0 f1 f3 f4 f5
  obtain ⟨o,e,c,d⟩:=id st'
  exact ⟨u,rfl,go_of (s:={ s with heap:=h' }) e c d (by decide) ⟨x,H,I1,ru,⟨rfl,fun ys hy=>by rw [I.tuple_inj hy hq]; exact hx⟩,st',fun b hb=>(hf b hb).1⟩⟩
 done:=by
  intro X hP hw hK hc i pins s σ H E I hf st hg
  subst hP hw hK
  obtain ⟨xs,hq,hx⟩:=hg
  obtain ⟨its,rv,p,hz⟩:=I.tuple hq
  obtain ⟨f0,f1,f2,f3,f4,f5⟩:=hf it (by simp)
  have hl:=rv.length
  exact wpAny_pyNext_tuple_end (I.ok.hd hc) st (show s.heap.IsTuple a its.toArray from p) (by simp; omega) fun h' eb=>⟨rfl,I.turned (t':=s.toks) (fun b o hb e=>eb b o hb e) f0 f1 f3 f4 f5⟩
 self:=fun _ _ _ _ _ st h=>wpAny_pyIter_tupleiter st h
theorem turn_range {P:Program} {w:World} {K:PySem.W.Frag} {tg:Expr} (it:Addr) (lo:Int) (n:Nat):Turn P w K tg (Itr lo n) [it] it (fun i h=>IsRangeIter h it (lo + (i:Nat) * 1) ((n:Int) - (i:Nat)) 1) where
 mem:=by simp
 obj:=fun i h st b hb=>by
  have e:b = it:=by simpa using hb
  subst e
  exact ⟨_,st,fun v z=>by
   have z':Data.fields _ = Data.cell v:=z
   cases z'⟩
 keep:=fun i h h' st k=>k it (by simp) _ st
 item:=by
  intro X hP hw hK hc i pins s σ H E I hf st hg
  subst hP hw hK
  obtain ⟨f0,f1,f2,f3,f4,f5⟩:=hf it (by simp)
  have W:=Walks.range (prog:=X.prog) (w:=X.w) (I.ok.hd hc) it lo 1 n
  refine W.item i s _ _ hg st fun v h' tk hv st' kk=>?_
  obtain ⟨t,rfl⟩:=hv
  have I1:Inv X pins σ H { s with heap:=h',toks:=tk }:=I.turned (fun b o hb e=>kk b o (by simpa using hb) e) f0 f1 f3 f4 f5
  refine ⟨_,rfl,go_of (s:={ s with heap:=h',toks:=tk }) (n:="range_iterator") st' rfl rfl (by decide) ⟨.int (lo + i),H,I1,⟨t,?_⟩,⟨rfl,rfl⟩,st',fun b hb=>(hf b hb).1⟩⟩
  rw [Int.mul_one]
 done:=by
  intro X hP hw hK hc i pins s σ H E I hf st hg
  subst hP hw hK
  obtain ⟨f0,f1,f2,f3,f4,f5⟩:=hf it (by simp)
  exact wpAny_pyNext_range_end (I.ok.hd hc) st (by have:n≤i:=hg; omega) fun h' eb=>⟨rfl,I.turned (t':=s.toks) (fun b o hb e=>eb b o hb e) f0 f1 f3 f4 f5⟩
 self:=fun _ _ _ _ _ st h=>wpAny_pyIter_rangeiter st h
end L2
namespace L2
open PySem PySem.Spec PyProof.Rows
section
variable {X:Cx} {tg:Expr}
def iList (K:PySem.W.Frag) (tl:TE):TI:=fun σ H R=>tl σ H fun x H1=>∃ a,x = .ref a∧(∃ xs,SqL K H1 a xs)∧R (Itl K a) H1
def iTup (K:PySem.W.Frag) (tl:TE):TI:=fun σ H R=>tl σ H fun x H1=>∃ a,x = .ref a∧(∃ xs,SqT K H1 a xs)∧R (Itt K a) H1
theorem pi_list {l:Expr} {tl:TE} (hl:PE X l tl):PI X tg l (iList X.K tl):=by
 intro pins s σ H R I h
 refine thn (hl pins s σ H _ I h) fun v s1 ⟨x,H1,I1,r1,q1⟩=>?_
 obtain ⟨a,e,⟨xs,hq⟩,q⟩:=q1
 subst e
 cases r1
 obtain ⟨its,rv,p,hz⟩:=I1.list hq
 refine wpAny_pyIter_list p.isList ?_
 refine ⟨s1.heap.objs.size,[s1.heap.objs.size],_,_,H1,rfl,I1.kept (t':=s1.toks) fun b o e=>Heap.get?_push_of_some _ e,turn_list a _,⟨_,Heap.get?_push_size _ rfl,rfl,rfl⟩,fun b hb=>?_,q⟩
 have e:b = s1.heap.objs.size:=by simpa using hb
 subst e
 exact I1.fpOk (Nat.le_refl _) (I1.hok.fresh (Nat.le_refl _))
theorem pi_tup {l:Expr} {tl:TE} (hl:PE X l tl):PI X tg l (iTup X.K tl):=by
 intro pins s σ H R I h
 refine thn (hl pins s σ H _ I h) fun v s1 ⟨x,H1,I1,r1,q1⟩=>?_
 obtain ⟨a,e,⟨xs,hq⟩,q⟩:=q1
 subst e
 cases r1
 obtain ⟨its,rv,p,hz⟩:=I1.tuple hq
 refine wpAny_pyIter_tuple (show s1.heap.IsTuple a its.toArray from p) ?_
 refine ⟨s1.heap.objs.size,[s1.heap.objs.size],_,_,H1,rfl,I1.kept (t':=s1.toks) fun b o e=>Heap.get?_push_of_some _ e,turn_tuple a _,⟨_,Heap.get?_push_size _ rfl,rfl,rfl⟩,fun b hb=>?_,q⟩
 have e:b = s1.heap.objs.size:=by simpa using hb
 subst e
 exact I1.fpOk (Nat.le_refl _) (I1.hok.fresh (Nat.le_refl _))
theorem range_it {pins:List (Addr × Obj)} {σ:St} {H:Hp} {s:Shared} {R:It→Hp→Prop} {E:Value→Shared→Prop} {lo hi:Int} {t u v:Tok} {tk:Nat} (I:Inv X pins σ H s) (h1:-(2 ^ 62)≤lo) (h2:lo < 2 ^ 62) (h3:-(2 ^ 62)≤hi) (h4:hi < 2 ^ 62)
  (q:R (Itr lo (hi - lo).toNat) H):wpAny (model X.prog X.w) X.A (pyIter (.ref s.heap.objs.size)) (PIE X pins σ tg R) E { s with heap:=s.heap.push { cls:=.type "range",data:=.fields #[.int lo t,.int hi u,.int 1 v] },toks:=tk }:=by
 refine wpAny_pyIter_range (IsRange.new ..) (small_one h1 h2 h3 h4) ?_
 have I1:Inv X pins σ H { s with heap:=s.heap.push { cls:=.type "range",data:=.fields #[.int lo t,.int hi u,.int 1 v] },toks:=tk }:=I.kept fun b o e=>Heap.get?_push_of_some _ e
 refine ⟨(s.heap.push { cls:=.type "range",data:=.fields #[.int lo t,.int hi u,.int 1 v] }).objs.size,[(s.heap.push { cls:=.type "range",data:=.fields #[.int lo t,.int hi u,.int 1 v] }).objs.size],_,_,H,rfl,
  I1.kept (t':=tk) fun b o e=>Heap.get?_push_of_some _ e,turn_range _ lo (hi - lo).toNat,?_,fun b hb=>?_,q⟩
 ·have e1:lo + ((0:Nat):Int) * 1 = lo:=by simp
  have e2:(((hi - lo).toNat:Nat):Int) - ((0:Nat):Int) = Builtin.Range.rangeSize lo hi 1:=by rw [rangeSize_one]; split <;> omega
  show IsRangeIter _ _ (lo + ((0:Nat):Int) * 1) ((((hi - lo).toNat:Nat):Int) - ((0:Nat):Int)) 1
  rw [e1,e2]
  exact Heap.get?_push_size _ rfl
 ·have e:b = (s.heap.push { cls:=.type "range",data:=.fields #[.int lo t,.int hi u,.int 1 v] }).objs.size:=by simpa using hb
  subst e
  exact I1.fpOk (Nat.le_refl _) (I1.hok.fresh (Nat.le_refl _))
def iRng1 (ta:TA):TI:=fun σ H R=>ta σ H fun vs H1=>∃ j:Int,vs = [.int j]∧-(2 ^ 62)≤j∧j < 2 ^ 62∧R (Itr 0 j.toNat) H1
theorem pi_range1 {a:Expr} {ta:TA} {p pos:Pos} (hg:Gl X "range") (hm:X.mg "range" = none) (ha:PA X [a] ta) (hs:starEach [a] X.env = [(false,eval a X.env)]:=by rfl):PI X tg (.Call (.Name "range" p) [a] [] pos) (iRng1 ta):=by
 intro pins s σ H R I h
 refine Call_ (ld_blt I hg hm boot_range (PyProof.Rows.callWith_type1 (thn (ha pos pins s σ H _ I h) fun us s1 ⟨vs,H1,I1,r1,q1⟩=>?_) hs rfl))
 obtain ⟨j,e,q1,q2,q⟩:=q1
 subst e
 cases r1 with
 | cons r rr =>
  cases rr
  obtain ⟨t,rfl⟩:=r
  exact call_range_1 (range_it I1 (by omega) (by omega) q1 q2 (by simpa using q))
def tFor (wi:TI) (g:TG) (tb:TS):TS:=fun D σ H=>wi σ H fun J H1=>∃ W:Nat→Nat→St→Hp→Prop,(∃ m,W 0 m σ H1)∧∀ i m σ H,W i m σ H →
 (J.stop i H∧D.nx σ H)∨(J.go i H∧∃ N:St→Hp→Prop,(∀ σ' H',N σ' H'→∃ m',m' < m∧W (i + 1) m' σ' H')∧∀ x H',J.yld i H x H'→g x σ H' fun σ2 H2=>tb { D with nx:=N,ct:=N,bk:=D.nx } σ2 H2)
def pinsAt (fp:List Addr) (h:Heap):List (Addr × Obj):=fp.filterMap fun b=>(h.get? b).map fun o=>(b,o)
theorem mem_pinsAt {fp:List Addr} {h:Heap} {b:Addr} {o:Obj} (hb:b ∈ fp) (e:h.get? b = some o):(b,o) ∈ pinsAt fp h:=List.mem_filterMap.mpr ⟨b,hb,by rw [e]; rfl⟩
theorem of_pinsAt {fp:List Addr} {h:Heap} {p:Addr × Obj} (hp:p ∈ pinsAt fp h):p.1 ∈ fp∧h.get? p.1 = some p.2:=by
 obtain ⟨b,hb,e⟩:=List.mem_filterMap.mp hp
 cases q:h.get? b with
 | none=>rw [q] at e; cases e
 | some o =>
  rw [q] at e
  have e':(b,o) = p:=Option.some.inj e
  subst e'
  exact ⟨hb,q⟩
theorem Inv.pinned {pins:List (Addr × Obj)} {σ:St} {H:Hp} {s:Shared} {fp:List Addr} (I:Inv X pins σ H s) (hf:∀ b ∈ fp,FpOk X pins H b) (ho:∀ b ∈ fp,∃ o,s.heap.get? b = some o∧∀ v,o.data≠.cell v):Inv X (pins ++ pinsAt fp s.heap) σ H s :=
 I.pins_of fun p hp=>(List.mem_append.mp hp).elim (fun z=>I.pin p (List.mem_append_right _ z)) fun z=>by
  obtain ⟨hb,e⟩:=of_pinsAt z
  obtain ⟨f0,f1,f2,_⟩:=hf p.1 hb
  obtain ⟨o,e',d⟩:=ho p.1 hb
  rw [e] at e'; cases e'
  exact ⟨e,f0,f1,f2,d⟩
theorem Inv.unpinned {pins pl:List (Addr × Obj)} {σ:St} {H:Hp} {s:Shared} (I:Inv X (pins ++ pl) σ H s):Inv X pins σ H s:=I.pins_of fun p hp=>I.pin p (List.mem_append_right _ (List.mem_append_left _ hp))
theorem ps_for {iter:Expr} {body:List Stmt} {wi:TI} {g:TG} {tb:TS} {pos:Pos} (hp:PassesOwn (model X.prog X.w) X.A X.env X.xe) (hc:X.calm = true) (hi:PI X tg iter wi) (hg:PG X tg g) (hb:PSs X body tb)
  (hs:∀ x,foldedSetIterable iter X.env x = pure x:=by intro _; rfl):PS X (.For tg iter body [] pos) (tFor wi g tb):=by
 intro pins s σ H D I h
 refine wpAny_For (thn (hi pins s σ H _ I h) fun v s1 h1=>thn h1 fun itv s2 h2=>?_) hs
 obtain ⟨it,fp,tn,J,H2,e,I2,T,st2,f2,W,⟨m0,w0⟩,turn⟩:=h2
 subst e
 have stat:∀ {H':Hp},(∀ b ∈ fp,H' b = none)→∀ b ∈ fp,FpOk X pins H' b:=fun hn b hb=>⟨hn b hb,(f2 b hb).2⟩
 refine codeAny_forLoop_any (fun n s'=>∃ i σ' H',Inv X pins σ' H' s'∧tn i s'.heap∧(∀ b ∈ fp,H' b = none)∧W i n σ' H') ?_ m0 ⟨0,σ,H2,I2,st2,fun b hb=>(f2 b hb).1,w0⟩
 rintro n s3 ⟨i,σ3,H3,I3,st3,fr3,w3⟩
 rcases turn i n σ3 H3 w3 with ⟨stop,qn⟩ | ⟨go,N,hN,step⟩
 ·refine wpAny_passesOwn hp (thn (T.done X rfl rfl rfl hc i pins s3 σ3 H3 X.xe I3 (stat fr3) st3 stop) fun r s4 ⟨hr,I4⟩=>?_)
  subst hr
  exact wpAny_execs_nil ⟨σ3,H3,I4,qn⟩
 ·refine wpAny_passesOwn hp (thn (T.item X rfl rfl rfl hc i pins s3 σ3 H3 X.xe I3 (stat fr3) st3 go) fun r s4 ⟨u,hr,h4⟩=>?_)
  subst hr
  refine wpAny_passesOwn hp (thn h4 fun _ s5 ⟨x,H5,I5,r5,y5,st5,fr5⟩=>?_)
  have I5':=I5.pinned (stat fr5) (T.obj _ _ st5)
  refine wpAny_passesOwn hp (thn (hg _ s5 σ3 H5 x u _ I5' r5 (step x H5 y5)) fun _ s6 ⟨σ6,H6,I6,q6⟩=>?_)
  refine wpAny_passesOwn hp (thn (hb _ s6 σ6 H6 _ I6 q6) fun f s7 q7=>?_)
  have again:∀ {σ7:St} {H7:Hp},Inv X (pins ++ pinsAt fp s5.heap) σ7 H7 s7→N σ7 H7→∃ m,m < n∧∃ i σ' H',Inv X pins σ' H' s7∧tn i s7.heap∧(∀ b ∈ fp,H' b = none)∧W i m σ' H':=fun {σ7 H7} I7 n7=>by
   obtain ⟨m',hm,w7⟩:=hN σ7 H7 n7
   refine ⟨m',hm,i + 1,σ7,H7,I7.unpinned,T.keep _ _ _ st5 fun b hb o e=>(I7.pin (b,o) (List.mem_append_right _ (List.mem_append_right _ (mem_pinsAt hb e)))).1,fun b hb=>?_,w7⟩
   obtain ⟨o,e,d⟩:=T.obj _ _ st5 b hb
   exact (I7.pin (b,o) (List.mem_append_right _ (List.mem_append_right _ (mem_pinsAt hb e)))).2.1
  cases f with
  | next=>obtain ⟨σ7,H7,I7,n7⟩:=q7; exact again I7 n7
  | cont=>obtain ⟨σ7,H7,I7,n7⟩:=q7; exact again I7 n7
  | brk=>obtain ⟨σ7,H7,I7,q7⟩:=q7; exact ⟨σ7,H7,I7.unpinned,q7⟩
  | ret v=>obtain ⟨x7,σ7,H7,I7,r7,q7⟩:=q7; exact ⟨x7,σ7,H7,I7.unpinned,r7,q7⟩
end
theorem for_list {K:PySem.W.Frag} {a:Addr} {xs:List V} {g:TG} {tb:TS} {D:Ends} {σ:St} {H:Hp} (Pv:Nat→St→Hp→Prop) (h0:Pv 0 σ H) (hl:∀ i σ H,i≤xs.length→Pv i σ H→SqL K H a xs)
  (hs:∀ i x σ H,xs[i]? = some x→Pv i σ H→g x σ H fun σ2 H2=>tb { D with nx:=Pv (i + 1),ct:=Pv (i + 1),bk:=D.nx } σ2 H2) (hd:∀ σ H,Pv xs.length σ H→D.nx σ H) :
  ∃ W:Nat→Nat→St→Hp→Prop,(∃ m,W 0 m σ H)∧∀ i m σ H,W i m σ H →
   ((Itl K a).stop i H∧D.nx σ H)∨((Itl K a).go i H∧∃ N:St→Hp→Prop,(∀ σ' H',N σ' H'→∃ m',m' < m∧W (i + 1) m' σ' H')∧∀ x H',(Itl K a).yld i H x H'→g x σ H' fun σ2 H2=>tb { D with nx:=N,ct:=N,bk:=D.nx } σ2 H2):=by
 refine ⟨fun i m σ H=>m = xs.length - i∧i≤xs.length∧Pv i σ H,⟨xs.length,by simp,Nat.zero_le _,h0⟩,?_⟩
 rintro i m σ H ⟨rfl,hi,p⟩
 have q:=hl i σ H hi p
 by_cases hlt:i < xs.length
 ·refine .inr ⟨⟨xs,xs[i],q,by simp [hlt]⟩,Pv (i + 1),fun σ' H' p'=>⟨xs.length - (i + 1),by omega,rfl,hlt,p'⟩,fun x H' y=>?_⟩
  obtain ⟨e,y⟩:=y
  subst e
  exact hs i x σ _ (y xs q) p
 ·have e:i = xs.length:=by omega
  subst e
  exact .inl ⟨⟨xs,q,Nat.le_refl _⟩,hd σ H p⟩
theorem for_tup {K:PySem.W.Frag} {a:Addr} {xs:List V} {g:TG} {tb:TS} {D:Ends} {σ:St} {H:Hp} (Pv:Nat→St→Hp→Prop) (h0:Pv 0 σ H) (hl:∀ i σ H,i≤xs.length→Pv i σ H→SqT K H a xs)
  (hs:∀ i x σ H,xs[i]? = some x→Pv i σ H→g x σ H fun σ2 H2=>tb { D with nx:=Pv (i + 1),ct:=Pv (i + 1),bk:=D.nx } σ2 H2) (hd:∀ σ H,Pv xs.length σ H→D.nx σ H) :
  ∃ W:Nat→Nat→St→Hp→Prop,(∃ m,W 0 m σ H)∧∀ i m σ H,W i m σ H →
   ((Itt K a).stop i H∧D.nx σ H)∨((Itt K a).go i H∧∃ N:St→Hp→Prop,(∀ σ' H',N σ' H'→∃ m',m' < m∧W (i + 1) m' σ' H')∧∀ x H',(Itt K a).yld i H x H'→g x σ H' fun σ2 H2=>tb { D with nx:=N,ct:=N,bk:=D.nx } σ2 H2):=by
 refine ⟨fun i m σ H=>m = xs.length - i∧i≤xs.length∧Pv i σ H,⟨xs.length,by simp,Nat.zero_le _,h0⟩,?_⟩
 rintro i m σ H ⟨rfl,hi,p⟩
 have q:=hl i σ H hi p
 by_cases hlt:i < xs.length
 ·refine .inr ⟨⟨xs,xs[i],q,by simp [hlt]⟩,Pv (i + 1),fun σ' H' p'=>⟨xs.length - (i + 1),by omega,rfl,hlt,p'⟩,fun x H' y=>?_⟩
  obtain ⟨e,y⟩:=y
  subst e
  exact hs i x σ _ (y xs q) p
 ·have e:i = xs.length:=by omega
  subst e
  exact .inl ⟨⟨xs,q,Nat.le_refl _⟩,hd σ H p⟩
end L2
namespace L2
open PySem PySem.Spec PyProof.Rows
abbrev R2:=V→V→Hp→VK→Prop
def OpR (X:Cx) (f:Value→Value→Sem Value) (r:R2):Prop :=
 ∀ (pins:List (Addr × Obj)) (s:Shared) (σ:St) (H:Hp) (x y:V) (v u:Value) (Q:VK),Inv X pins σ H s→RelV x v→RelV y u→r x y H Q →
  wpAny (model X.prog X.w) X.A (f v u) (EP X pins σ Q) X.xe s
def UnR (X:Cx) (f:Value→Sem Value) (r:V→Hp→VK→Prop):Prop :=
 ∀ (pins:List (Addr × Obj)) (s:Shared) (σ:St) (H:Hp) (x:V) (v:Value) (Q:VK),Inv X pins σ H s→RelV x v→r x H Q →
  wpAny (model X.prog X.w) X.A (f v) (EP X pins σ Q) X.xe s
def CallR (X:Cx) (f:Value) (r:List V→Hp→VK→Prop):Prop :=
 ∀ (pins:List (Addr × Obj)) (s:Shared) (σ:St) (H:Hp) (xs:List V) (us:List Value) (Q:VK),Inv X pins σ H s→Vals xs us→r xs H Q →
  wpAny (model X.prog X.w) X.A (call f us) (EP X pins σ Q) X.xe s
def tOp (r:R2) (ta tb:TE):TE:=fun σ H Q=>ta σ H fun x H1=>tb σ H1 fun y H2=>r x y H2 Q
def tUn (r:V→Hp→VK→Prop) (ta:TE):TE:=fun σ H Q=>ta σ H fun x H1=>r x H1 Q
def rI (C:Int→Int→Prop) (g:Int→Int→V):R2:=fun x y H Q=>∃ i j,x = .int i∧y = .int j∧C i j∧Q (g i j) H
def rI0 (g:Int→Int→V):R2:=fun x y H Q=>∃ i j,x = .int i∧y = .int j∧Q (g i j) H
def rU (g:Int→V):V→Hp→VK→Prop:=fun x H Q=>∃ i,x = .int i∧Q (g i) H
section
variable {X:Cx} {a b c:Expr} {ta tb tc:TE} {pos:Pos}
theorem binT (ha:PE X a ta) (hb:PE X b tb) {pins:List (Addr × Obj)} {s:Shared} {σ:St} {H:Hp} {R:V→V→Hp→Prop} (I:Inv X pins σ H s)
  (h:ta σ H fun x H1=>tb σ H1 fun y H2=>R x y H2) {Q:Value→Shared→Prop} {f:Value→Value→Sem Value}
  (hf:∀ v u s2 x y H2,Inv X pins σ H2 s2→RelV x v→RelV y u→R x y H2→wpAny (model X.prog X.w) X.A (f v u) Q X.xe s2) :
  wpAny (model X.prog X.w) X.A (eval a X.env) (fun v s₁=>wpAny (model X.prog X.w) X.A (eval b X.env) (fun u s₂=>wpAny (model X.prog X.w) X.A (f v u) Q X.xe s₂) X.xe s₁) X.xe s:=by
 refine thn (ha pins s σ H _ I h) fun v s1 ⟨x,H1,I1,r1,q1⟩=>?_
 refine thn (hb pins s1 σ H1 _ I1 q1) fun u s2 ⟨y,H2,I2,r2,q2⟩=>?_
 exact hf v u s2 x y H2 I2 r1 r2 q2
theorem pe_op {op:Operator} {r:R2} (ho:OpR X (binaryOp op) r) (ha:PE X a ta) (hb:PE X b tb):PE X (.BinOp a op b pos) (tOp r ta tb):=by
 intro pins s σ H Q I h
 exact wpAny_BinOp (binT ha hb I h fun v u s2 x y H2 I2 rx ry q=>ho pins s2 σ H2 x y v u Q I2 rx ry q)
theorem pe_un {op:UnaryOp} {r:V→Hp→VK→Prop} (ho:UnR X (unaryOp op) r) (ha:PE X a ta):PE X (.UnaryOp op a pos) (tUn r ta):=by
 intro pins s σ H Q I h
 exact UnaryOp_ (thn (ha pins s σ H _ I h) fun v s1 ⟨x,H1,I1,r1,q1⟩=>ho pins s1 σ H1 x v Q I1 r1 q1)
theorem opI {f:Value→Value→Sem Value} {C:Int→Int→Prop} {g:Int→Int→Int}
  (rule:∀ (i j:Int) (t u:Tok) (s:Shared) (Q:Value→Shared→Prop) (E:Value→Shared→Prop),C i j→Q (.int (g i j) s.toks) { s with toks:=s.toks + 1 }→wpAny (model X.prog X.w) X.A (f (.int i t) (.int j u)) Q E s) :
  OpR X f (rI C fun i j=>.int (g i j)):=by
 intro pins s σ H x y v u Q I rx ry h
 obtain ⟨i,j,rfl,rfl,hc,q⟩:=h
 obtain ⟨t,rfl⟩:=rx
 obtain ⟨t',rfl⟩:=ry
 exact rule i j t t' s _ _ hc ⟨.int (g i j),H,I.tok _,⟨_,rfl⟩,q⟩
theorem opI0 {f:Value→Value→Sem Value} {g:Int→Int→Int}
  (rule:∀ (i j:Int) (t u:Tok) (s:Shared) (Q:Value→Shared→Prop) (E:Value→Shared→Prop),Q (.int (g i j) s.toks) { s with toks:=s.toks + 1 }→wpAny (model X.prog X.w) X.A (f (.int i t) (.int j u)) Q E s) :
  OpR X f (rI0 fun i j=>.int (g i j)):=by
 intro pins s σ H x y v u Q I rx ry h
 obtain ⟨i,j,rfl,rfl,q⟩:=h
 obtain ⟨t,rfl⟩:=rx
 obtain ⟨t',rfl⟩:=ry
 exact rule i j t t' s _ _ ⟨.int (g i j),H,I.tok _,⟨_,rfl⟩,q⟩
theorem opB0 {f:Value→Value→Sem Value} {g:Int→Int→Bool}
  (rule:∀ (i j:Int) (t u:Tok) (s:Shared) (Q:Value→Shared→Prop) (E:Value→Shared→Prop),Q (.bool (g i j)) s→wpAny (model X.prog X.w) X.A (f (.int i t) (.int j u)) Q E s) :
  OpR X f (rI0 fun i j=>.bl (g i j)):=by
 intro pins s σ H x y v u Q I rx ry h
 obtain ⟨i,j,rfl,rfl,q⟩:=h
 obtain ⟨t,rfl⟩:=rx
 obtain ⟨t',rfl⟩:=ry
 exact rule i j t t' s _ _ ⟨.bl (g i j),H,I,rfl,q⟩
def CDiv (i j:Int):Prop:=0 < j∧j < 1073741824
def CMul (i j:Int):Prop:=(-(2 ^ 64) < i∧i < 2 ^ 64)∨(-(2 ^ 64) < j∧j < 2 ^ 64)
theorem CMul.ok {i j:Int} (h:CMul i j):IntMulOk i j:=by
 rcases h with ⟨h1,h2⟩ | ⟨h1,h2⟩
 ·exact .of_left (intBits_le_64 h1 h2)
 ·exact .of_right (intBits_le_64 h1 h2)
theorem op_add:OpR X (binaryOp .Add) (rI0 fun i j=>.int (i + j)):=opI0 fun _ _ _ _ _ _ _ q=>add_int q
theorem op_sub:OpR X (binaryOp .Sub) (rI0 fun i j=>.int (i - j)):=opI0 fun _ _ _ _ _ _ _ q=>sub_int q
theorem op_mul:OpR X (binaryOp .Mult) (rI CMul fun i j=>.int (i * j)):=opI fun _ _ _ _ _ _ _ hc q=>mul_int q hc.ok
theorem op_fdiv:OpR X (binaryOp .FloorDiv) (rI CDiv fun i j=>.int (i / j)):=opI fun i j _ _ _ _ _ hc q=>by
 have h1:(0:Int) < j:=hc.1
 have h2:j < 1073741824:=hc.2
 exact floordiv_int (by omega) (by rw [Int.fdiv_eq_ediv_of_nonneg i (by omega)]; exact q) (.inl (PyProof.noPylong_small (by omega)))
theorem op_mod:OpR X (binaryOp .Mod) (rI (fun _ j=>0 < j) fun i j=>.int (i % j)):=opI fun i j _ _ _ _ _ hc q=>by
 have h1:(0:Int) < j:=hc
 exact mod_int' (by omega) (by rw [Int.fmod_eq_emod_of_nonneg i (by omega)]; exact q)
theorem unI {f:Value→Sem Value} {g:Int→Int}
  (rule:∀ (i:Int) (t:Tok) (s:Shared) (Q:Value→Shared→Prop) (E:Value→Shared→Prop),Q (.int (g i) s.toks) { s with toks:=s.toks + 1 }→wpAny (model X.prog X.w) X.A (f (.int i t)) Q E s) :
  UnR X f (rU fun i=>.int (g i)):=by
 intro pins s σ H x v Q I rx h
 obtain ⟨i,rfl,q⟩:=h
 obtain ⟨t,rfl⟩:=rx
 exact rule i t s _ _ ⟨.int (g i),H,I.tok _,⟨_,rfl⟩,q⟩
theorem un_neg:UnR X (unaryOp .USub) (rU fun i=>.int (-i)):=unI fun _ _ _ _ _ q=>neg_int q
end
def scal:V→V→Bool
 | .non,.non=>true | .non,.int _=>true | .int _,.non=>true | .non,.bl _=>true | .bl _,.non=>true | .non,.str _=>true | .str _,.non=>true
 | .int _,.int _=>true | .bl _,.bl _=>true | .str _,.str _=>true | .byt _,.byt _=>true
 | .int _,.str _=>true | .str _,.int _=>true | .bl _,.str _=>true | .str _,.bl _=>true
 | _,_=>false
def rEq:R2:=fun x y H Q=>scal x y = true∧Q (.bl (decide (x = y))) H
def rNe:R2:=fun x y H Q=>scal x y = true∧Q (.bl (!decide (x = y))) H
theorem dec_int {i j:Int}:decide (V.int i = V.int j) = (i == j):=by
 rw [Bool.eq_iff_iff]
 simp
theorem dec_bl {i j:Bool}:decide (V.bl i = V.bl j) = (i == j):=by
 rw [Bool.eq_iff_iff]
 simp
theorem dec_str {i j:Str}:decide (V.str i = V.str j) = (i == j):=by
 rw [Bool.eq_iff_iff]
 simp
theorem dec_byt {i j:Array UInt8}:decide (V.byt i = V.byt j) = (i.toList == j.toList):=by
 rw [Bool.eq_iff_iff]
 cases i
 cases j
 simp
section
variable {X:Cx} {a b c:Expr} {ta tb tc:TE} {pos:Pos}
theorem fin_bl {pins:List (Addr × Obj)} {σ:St} {H:Hp} {s:Shared} {Q:VK} {k k':Bool} (I:Inv X pins σ H s) (q:Q (.bl k) H) (e:k = k'):EP X pins σ Q (.bool k') s:=by
 subst e
 exact ⟨.bl k,H,I,rfl,q⟩
theorem op_eq:OpR X (compareOp .Eq) rEq:=by
 intro pins s σ H x y v u Q I rx ry h
 obtain ⟨hs,q⟩:=h
 cases x with
 | non =>
  cases rx
  cases y with
  | non=>cases ry; exact PySem.EqNone.eq_none_none (fin_bl I q (by simp))
  | bl j=>cases ry; exact PySem.EqNone.eq_none_bool (fin_bl I q (by simp))
  | int j=>obtain ⟨t',rfl⟩:=ry; exact PySem.EqNone.eq_none_int (fin_bl I q (by simp))
  | str j=>obtain ⟨t',rfl⟩:=ry; exact PySem.EqNone.eq_none_str (fin_bl I q (by simp))
  | _=>exact absurd (show false = true from hs) Bool.false_ne_true
 | bl i =>
  cases rx
  cases y with
  | non=>cases ry; exact PySem.EqNone.eq_bool_none (fin_bl I q (by simp))
  | bl j=>cases ry; exact eq_bool (fin_bl I q dec_bl)
  | str j=>obtain ⟨t',rfl⟩:=ry; exact PySem.EqMixed.eq_bool_str (fin_bl I q (by simp))
  | _=>exact absurd (show false = true from hs) Bool.false_ne_true
 | int i =>
  obtain ⟨t,rfl⟩:=rx
  cases y with
  | non=>cases ry; exact PySem.EqNone.eq_int_none (fin_bl I q (by simp))
  | int j=>obtain ⟨t',rfl⟩:=ry; exact eq_int (fin_bl I q dec_int)
  | str j=>obtain ⟨t',rfl⟩:=ry; exact PySem.EqMixed.eq_int_str (fin_bl I q (by simp))
  | _=>exact absurd (show false = true from hs) Bool.false_ne_true
 | str i =>
  obtain ⟨t,rfl⟩:=rx
  cases y with
  | non=>cases ry; exact PySem.EqNone.eq_str_none (fin_bl I q (by simp))
  | bl j=>cases ry; exact PySem.EqMixed.eq_str_bool (fin_bl I q (by simp))
  | int j=>obtain ⟨t',rfl⟩:=ry; exact PySem.EqMixed.eq_str_int (fin_bl I q (by simp))
  | str j=>obtain ⟨t',rfl⟩:=ry; exact eq_str (fin_bl I q dec_str)
  | _=>exact absurd (show false = true from hs) Bool.false_ne_true
 | byt i =>
  obtain ⟨t,rfl⟩:=rx
  cases y with
  | byt j=>obtain ⟨t',rfl⟩:=ry; exact PySem.W.eq_bytes (fin_bl I q dec_byt)
  | _=>exact absurd (show false = true from hs) Bool.false_ne_true
 | _=>cases y <;> exact absurd (show false = true from hs) Bool.false_ne_true
theorem op_ne:OpR X (compareOp .NotEq) rNe:=by
 intro pins s σ H x y v u Q I rx ry h
 obtain ⟨hs,q⟩:=h
 cases x with
 | non =>
  cases rx
  cases y with
  | non=>cases ry; exact PySem.EqNone.ne_none_none (fin_bl I q (by simp))
  | bl j=>cases ry; exact PySem.EqNone.ne_none_bool (fin_bl I q (by simp))
  | int j=>obtain ⟨t',rfl⟩:=ry; exact PySem.EqNone.ne_none_int (fin_bl I q (by simp))
  | str j=>obtain ⟨t',rfl⟩:=ry; exact PySem.EqNone.ne_none_str (fin_bl I q (by simp))
  | _=>exact absurd (show false = true from hs) Bool.false_ne_true
 | bl i =>
  cases rx
  cases y with
  | non=>cases ry; exact PySem.EqNone.ne_bool_none (fin_bl I q (by simp))
  | bl j=>cases ry; exact ne_bool (fin_bl I q (congrArg not dec_bl))
  | str j=>obtain ⟨t',rfl⟩:=ry; exact PySem.EqMixed.ne_bool_str (fin_bl I q (by simp))
  | _=>exact absurd (show false = true from hs) Bool.false_ne_true
 | int i =>
  obtain ⟨t,rfl⟩:=rx
  cases y with
  | non=>cases ry; exact PySem.EqNone.ne_int_none (fin_bl I q (by simp))
  | int j=>obtain ⟨t',rfl⟩:=ry; exact ne_int (fin_bl I q (congrArg not dec_int))
  | str j=>obtain ⟨t',rfl⟩:=ry; exact PySem.EqMixed.ne_int_str (fin_bl I q (by simp))
  | _=>exact absurd (show false = true from hs) Bool.false_ne_true
 | str i =>
  obtain ⟨t,rfl⟩:=rx
  cases y with
  | non=>cases ry; exact PySem.EqNone.ne_str_none (fin_bl I q (by simp))
  | bl j=>cases ry; exact PySem.EqMixed.ne_str_bool (fin_bl I q (by simp))
  | int j=>obtain ⟨t',rfl⟩:=ry; exact PySem.EqMixed.ne_str_int (fin_bl I q (by simp))
  | str j=>obtain ⟨t',rfl⟩:=ry; exact ne_str (fin_bl I q (congrArg not dec_str))
  | _=>exact absurd (show false = true from hs) Bool.false_ne_true
 | byt i =>
  obtain ⟨t,rfl⟩:=rx
  cases y with
  | byt j=>obtain ⟨t',rfl⟩:=ry; exact PySem.W.ne_bytes (fin_bl I q (congrArg not dec_byt))
  | _=>exact absurd (show false = true from hs) Bool.false_ne_true
 | _=>cases y <;> exact absurd (show false = true from hs) Bool.false_ne_true
theorem op_lt:OpR X (compareOp .Lt) (rI0 fun i j=>.bl (decide (i < j))):=opB0 fun _ _ _ _ _ _ _ q=>lt_int q
theorem op_le:OpR X (compareOp .LtE) (rI0 fun i j=>.bl (decide (i≤j))):=opB0 fun _ _ _ _ _ _ _ q=>le_int q
theorem op_gt:OpR X (compareOp .Gt) (rI0 fun i j=>.bl (decide (j < i))):=opB0 fun _ _ _ _ _ _ _ q=>gt_int q
theorem nomark (b:Expr) {op:CmpOp} (h:op≠.In:=by decide) (h2:op≠.NotIn:=by decide):behindInMarks op b = false:=by
 have e1:(op == CmpOp.In) = false:=by cases op <;> first | rfl | exact absurd rfl h
 have e2:(op == CmpOp.NotIn) = false:=by cases op <;> first | rfl | exact absurd rfl h2
 cases b <;> simp [behindInMarks,e1,e2]
theorem pe_cmpR {op:CmpOp} {r:R2} (ho:OpR X (compareOp op) r) (ha:PE X a ta) (hb:PE X b tb) (hm:behindInMarks op b = false):PE X (.Compare a [op] [b] pos) (tOp r ta tb):=by
 intro pins s σ H Q I h
 exact wpAny_Compare1 (binT ha hb I h fun v u s2 x y H2 I2 rx ry q=>ho pins s2 σ H2 x y v u Q I2 rx ry q) hm
def tTest (t:TE):TT:=fun σ H Q=>t σ H fun x H'=>∃ k,x = .bl k∧Q k H'
theorem pt_cmpR {op:CmpOp} {r:R2} (ho:OpR X (compareOp op) r) (ha:PE X a ta) (hb:PE X b tb) (hm:behindInMarks op b = false):PT X (.Compare a [op] [b] pos) (tTest (tOp r ta tb)):=by
 intro pins s σ H Q I h
 refine wpAny_isTrue_Compare1 (thn (ha pins s σ H _ I h) fun v s1 ⟨x,H1,I1,r1,q1⟩=>thn (hb pins s1 σ H1 _ I1 q1) fun u s2 ⟨y,H2,I2,r2,q2⟩ =>
  thn (ho pins s2 σ H2 x y v u _ I2 r1 r2 q2) fun c s3 ⟨z,H3,I3,r3,k,e,q3⟩=>?_) hm
 subst e
 cases r3
 exact wpAny_truthy_bool ⟨H3,I3,q3⟩
def tChain (r r':R2) (ta tb tc:TE):TE:=fun σ H Q=>ta σ H fun x H1=>tb σ H1 fun y H2=>r x y H2 fun z H3=>∃ k,z = .bl k ∧
 (if k = true then tc σ H3 fun w' H4=>r' y w' H4 Q else Q (.bl false) H3)
theorem pe_chain {op op':CmpOp} {r r':R2} (ho:OpR X (compareOp op) r) (ho':OpR X (compareOp op') r') (ha:PE X a ta) (hb:PE X b tb) (hc:PE X c tc)
  (hm:lastMarks [op,op'] [b,c] = false:=by with_unfolding_all rfl):PE X (.Compare a [op,op'] [b,c] pos) (tChain r r' ta tb tc):=by
 intro pins s σ H Q I h
 refine Compare_chain (thn (ha pins s σ H _ I h) fun v s1 ⟨x,H1,I1,r1,q1⟩=>chain_link (thn (hb pins s1 σ H1 _ I1 q1) fun u s2 ⟨y,H2,I2,r2,q2⟩ =>
  thn (ho pins s2 σ H2 x y v u _ I2 r1 r2 q2) fun d s3 ⟨z,H3,I3,r3,k,e,q3⟩=>?_)) hm
 subst e
 cases r3
 refine wpAny_truthy_bool ?_
 cases k with
 | false=>exact ite_ff ⟨.bl false,H3,I3,rfl,q3⟩
 | true=>exact ite_tt (chain_last (thn (hc pins s3 σ H3 _ I3 q3) fun w' s4 ⟨z',H4,I4,r4,q4⟩=>ho' pins s4 σ H4 y z' u w' Q I4 r2 r4 q4))
theorem line63:(sizeLine:Nat) < 2 ^ 63:=by rw [sizeLine_eq]; decide
theorem vals1 {x:V} {us:List Value} (r:Vals [x] us):∃ u,us = [u]∧RelV x u:=by
 cases r with
 | cons r1 r2=>cases r2; exact ⟨_,rfl,r1⟩
theorem vals2 {x y:V} {us:List Value} (r:Vals [x,y] us):∃ u w',us = [u,w']∧RelV x u∧RelV y w':=by
 cases r with
 | cons r1 r2 =>
  cases r2 with
  | cons r3 r4=>cases r4; exact ⟨_,_,rfl,r1,r3⟩
theorem call_max2 (hc:X.calm = true):CallR X (.builtin "max") (fun xs H Q=>∃ i j,xs = [.int i,.int j]∧Q (.int (if j > i then j else i)) H):=by
 intro pins s σ H xs us Q I r h
 obtain ⟨i,j,rfl,q⟩:=h
 obtain ⟨u,w',rfl,⟨t,rfl⟩,⟨t',rfl⟩⟩:=vals2 r
 refine max_two_ints (I.ok.hd hc) fun h' tk k=>⟨_,H,I.kept k,?_,q⟩
 by_cases hj:j > i
 ·rw [if_pos hj,if_pos hj]; exact ⟨_,rfl⟩
 ·rw [if_neg hj,if_neg hj]; exact ⟨_,rfl⟩
theorem call_str_int:CallR X (.type "str") (fun xs H Q=>∃ i,xs = [.int i]∧i.natAbs.log2 < 1920∧Q (.str (toString i)) H):=by
 intro pins s σ H xs us Q I r h
 obtain ⟨i,rfl,hz,q⟩:=h
 obtain ⟨u,rfl,t,rfl⟩:=vals1 r
 exact PySem.P.str_of_int hz ⟨.str _,H,I.tok _,⟨_,rfl⟩,q⟩
theorem call_ord:CallR X (.builtin "ord") (fun xs H Q=>∃ x,xs = [.str x]∧x.length = 1∧Q (.int (x.cps.getD 0 0:Nat)) H):=by
 intro pins s σ H xs us Q I r h
 obtain ⟨x,rfl,hz,q⟩:=h
 obtain ⟨u,rfl,t,rfl⟩:=vals1 r
 exact ord_of_one hz ⟨.int _,H,I.tok _,⟨_,rfl⟩,q⟩
end
end L2
namespace L2
open PySem PySem.Spec PyProof.Rows
structure ObjM (h:Heap) (x dx C:Addr) (mA:Str→Option Value):Prop where
 obj:h.get? x = some (PySem.W.instObj C dx)
 ns:h.Ns1 dx mA
 ne:dx≠x
theorem lookIn_ns {h:Heap} {dx:Addr} {mA:Str→Option Value} (n:h.Ns1 dx mA):∃ od,h.get? dx = some od∧∀ name,PySem.W.lookIn name od = some (mA name):=by
 obtain ⟨o,es,ep,ho,hd,hk,_,hm⟩:=n
 refine ⟨o,ho,fun name=>?_⟩
 have e:=hm name
 unfold nsFind findBy at e
 rw [← Array.find?_toList] at e
 unfold PySem.W.lookIn
 rw [hd]
 dsimp only
 split
 ·rename_i y q
  rw [q] at e
  exact congrArg some e
 ·rename_i q
  rw [q] at e
  have a:es.toList.any (·.refKey) = false:=by
   rw [List.any_eq_false]
   intro y hy
   obtain ⟨z,t,hkey⟩:=hk y (Array.mem_toList_iff.mp hy)
   simp [DictEntry.refKey,hkey]
  have a':¬ es.toList.any (·.refKey) = true:=by rw [a]; exact Bool.false_ne_true
  rw [if_neg a']
  exact congrArg some e
theorem ObjM.look {h:Heap} {x dx C:Addr} {mA:Str→Option Value} (I:ObjM h x dx C mA):∃ od,PySem.W.InstAt h x (PySem.W.instObj C dx) C (some od)∧∀ name,PySem.W.lookIn name od = some (mA name) :=
 let ⟨od,ho,hl⟩:=lookIn_ns I.ns
 ⟨od,⟨I.obj,rfl,rfl,ho⟩,hl⟩
section
variable {prog:Program} {w:World} {A:Around} {E:Value→Shared→Prop} {s:Shared} {K:PySem.W.Frag} {x dx C f:Addr} {mA:Str→Option Value} {name:Str} {v:Value}
end
theorem RelO.some_of {v:V} {o:Option Value} (r:RelO (some v) o):∃ u,o = some u∧RelV v u:=by
 cases o with
 | none=>exact (show False from r).elim
 | some u=>exact ⟨u,rfl,r⟩
section
variable {P:Program} {w:World} {H H':Hp} {h h':Heap} {a C dx:Addr} {fs fs':List (Str × V)}
theorem ins_get (hok:HOk P w H h) (e:H a = some (.ins C dx fs)):∃ mA,ObjM h a dx C mA∧(∀ f,RelO (fs.lookup f) (mA f))∧PySem.Within mA (fs.map (·.1))∧fs.length≤1000∧H dx = some (.own a):=by
 obtain ⟨d,z,ne,ob,mA,n,r,q⟩:=(show ObjOk P w H h a (.ins C dx fs) from hok a _ e)
 exact ⟨mA,⟨ob,n,ne⟩,r,q,z,d⟩
end
structure Cls (K:PySem.W.Frag) (C:Addr):Prop where
 pg:PySem.W.plainGet K C Str.empty = true
 hd:PySem.W.hasDictIn K C = true
 po:PySem.W.plainOver K C = true
 sa:PySem.W.findIn K (.ref C) "__setattr__" = some (some (.builtin "object.__setattr__"))
theorem Cls.get {K:PySem.W.Frag} {C:Addr} (c:Cls K C) (f:Str):PySem.W.plainGet K C f = true:=c.pg
section
variable {X:Cx} {pins:List (Addr × Obj)} {σ:St} {H:Hp} {s:Shared} {a C dx:Addr} {fs:List (Str × V)} {f:Str} {v:V} {A:Around} {E:Value→Shared→Prop}
end
section
variable {X:Cx} {o e value:Expr} {f:Str} {pos pos' tpos:Pos} {ta tv:TE}
end
section
variable {X:Cx} {pins:List (Addr × Obj)} {σ:St} {H:Hp} {s:Shared} {A:Around} {E:Value→Shared→Prop} {Q:Value→Shared→Prop} {c:Value} {b:Bool}
inductive TyOf (K:PySem.W.Frag) (H:Hp):V→Value→Prop where
 | non:TyOf K H .non (.type "NoneType")
 | bl (x:Bool):TyOf K H (.bl x) (.type "bool")
 | int (i:Int):TyOf K H (.int i) (.type "int")
 | str (x:Str):TyOf K H (.str x) (.type "str")
 | flt (x:UInt64):TyOf K H (.flt x) (.type "float")
 | lst {a:Addr} {xs:List V} (e:H a = some (.lst xs)):TyOf K H (.ref a) (.type "list")
 | frz {a:Addr} {o:Obj} {xs:List V} (e:H a = some (.frz o (.lst xs))):TyOf K H (.ref a) (.type "list")
 | tup {a:Addr} {xs:List V} (e:H a = some (.tup xs)):TyOf K H (.ref a) (.type "tuple")
 | dK {a:Addr} {kvs:List (Key × V)} (e:H a = some (.dK kvs)):TyOf K H (.ref a) (.type "dict")
 | dT {a:Addr} {kvs:List (List Key × V)} (e:H a = some (.dT kvs)):TyOf K H (.ref a) (.type "dict")
 | ins {a C dx:Addr} {fs:List (Str × V)} (e:H a = some (.ins C dx fs)) (cl:Cls K C) (ha:PySem.W.findIn K (.ref C) "__class__" = some (some (.builtin "object.__class__")))
   (hn:PySem.W.specialIn K (.builtin "object.__class__") "__get__" = some (some (.builtin "getset_descriptor.__get__"))) (htk:PySem.W.takesIn K (.builtin "object.__class__") = some true)
   (hm:PySem.W.mroIn K C (.type "object") = some true):TyOf K H (.ref a) (.ref C)
theorem isinst_ok {x:V} {u t:Value} (I:Inv X pins σ H s) (rx:RelV x u) (ty:TyOf X.K H x t) (e:PySem.W.kitOne X.K t c = some b) (h:∀ tk,Q (.bool b) { s with toks:=tk }) :
  wpAny (model X.prog X.w) A (call (.builtin "isinstance") [u,c]) Q E s:=by
 cases ty with
 | non=>cases (show u = Value.none from rx); exact PySem.W.kia_one PySem.W.kitx_none I.kIn True.intro e (fun z=>nomatch z) h
 | bl y=>cases (show u = Value.bool y from rx); exact PySem.W.kia_one PySem.W.kitx_bool I.kIn True.intro e (fun z=>nomatch z) h
 | int i=>obtain ⟨t,q⟩:=(show ∃ t,u = Value.int i t from rx); cases q; exact PySem.W.kia_one PySem.W.kitx_int I.kIn True.intro e (fun z=>nomatch z) h
 | str y=>obtain ⟨t,q⟩:=(show ∃ t,u = Value.str y t from rx); cases q; exact PySem.W.kia_one PySem.W.kitx_str I.kIn True.intro e (fun z=>nomatch z) h
 | flt y=>obtain ⟨t,q⟩:=(show ∃ t,u = Value.float y t from rx); cases q; exact PySem.W.kia_one PySem.W.kitx_float I.kIn True.intro e (fun z=>nomatch z) h
 | @lst a xs ea =>
  cases (show u = Value.ref a from rx)
  obtain ⟨_,_,n,_,h1⟩:=(show ObjOk X.prog X.w H s.heap a (.lst xs) from I.hok a _ ea)
  exact PySem.W.kia_one PySem.W.kitx_list I.kIn ⟨_,h1,rfl⟩ e (fun z=>nomatch z) h
 | @frz a ob xs ea =>
  cases (show u = Value.ref a from rx)
  obtain ⟨_,_,_,n,_,h1⟩:=(show ObjOk X.prog X.w H s.heap a (.frz ob (.lst xs)) from I.hok a _ ea)
  exact PySem.W.kia_one PySem.W.kitx_list I.kIn ⟨_,h1,rfl⟩ e (fun z=>nomatch z) h
 | @tup a xs ea =>
  cases (show u = Value.ref a from rx)
  obtain ⟨_,_,_,p⟩:=(show ObjOk X.prog X.w H s.heap a (.tup xs) from I.hok a _ ea)
  obtain ⟨o,h1,h2,_⟩:=p
  exact PySem.W.kia_one PySem.W.kitx_tuple I.kIn ⟨o,h1,h2⟩ e (fun z=>nomatch z) h
 | @dK a kvs ea =>
  cases (show u = Value.ref a from rx)
  obtain ⟨_,_,vs,_,p⟩:=(show ObjOk X.prog X.w H s.heap a (.dK kvs) from I.hok a _ ea)
  obtain ⟨o,es,ep,h1,h2,_⟩:=p
  exact PySem.W.kia_one PySem.W.kitx_dict I.kIn ⟨o,h1,h2.1⟩ e (fun z=>nomatch z) h
 | @dT a kvs ea =>
  cases (show u = Value.ref a from rx)
  obtain ⟨_,_,xs,_,o,es,ep,h1,h2,_⟩:=(show ObjOk X.prog X.w H s.heap a (.dT kvs) from I.hok a _ ea)
  exact PySem.W.kia_one PySem.W.kitx_dict I.kIn ⟨o,h1,h2.1⟩ e (fun z=>nomatch z) h
 | @ins a C dx fs ea cl ha hn htk hm =>
  cases (show u = Value.ref a from rx)
  obtain ⟨mA,O,_⟩:=ins_get I.hok ea
  obtain ⟨od,J,_⟩:=O.look
  exact PySem.W.kia_one (PySem.W.kitx_own (cl.get _) cl.hd ha hn htk hm) I.kIn J e (fun z=>nomatch z) h
end
end L2
namespace L2
open PySem PySem.Spec PyProof.Rows
structure Room (k:Nat) (A:Around):Prop where
 hd:A.handled = none
 dp:A.depth + 3 * k + 5 < recursionLimit
 un:A.units + 16 * k + 200 < cLine
theorem Room.mono {j k:Nat} {A:Around} (r:Room k A) (h:j≤k):Room j A:=⟨r.hd,by have:=r.dp; omega,by have:=r.un; omega⟩
theorem Room.deeper {k:Nat} {A:Around} (r:Room (k + 1) A) (env:Env):Room k (A.deeper env) :=
 ⟨r.hd,by have:=r.dp; show A.depth + 1 + 3 * k + 5 < _; omega,by have:=r.un; show A.units + 3 + 16 * k + 200 < _; omega⟩
theorem Room.depth {k:Nat} {A:Around} (r:Room k A):A.depth < recursionLimit:=by have:=r.dp; omega
theorem Room.units {k:Nat} {A:Around} (r:Room k A):A.units + 64 < cLine:=by have:=r.un; omega
def tNil:TA:=fun _ H Q=>Q [] H
def tCons (ta:TE) (tr:TA):TA:=fun σ H Q=>ta σ H fun x H1=>tr σ H1 fun xs H2=>Q (x :: xs) H2
section
variable {X:Cx} {e:Expr} {es:List Expr} {te:TE} {t:TA} {pos:Pos}
theorem pa_nil:PA X [] tNil:=fun _ _ _ _ H Q I h=>Calls.spliced_nil ⟨[],H,I,.nil,h⟩
theorem pa_cons (ha:PE X e te) (hr:PA X es t) (hs:starEach (e :: es) X.env = (false,eval e X.env) :: starEach es X.env:=by rfl):PA X (e :: es) (tCons te t):=by
 intro pos pins s σ H Q I h
 rw [hs]
 show wpAny _ _ (spliced ((false,eval e X.env) :: backTo pos (starEach es X.env))) _ _ s
 refine Calls.spliced_cons (thn (ha pins s σ H _ I h) fun u s1 ⟨x,H1,I1,r1,q1⟩=>?_)
 exact thn (hr pos pins s1 σ H1 _ I1 q1) fun us s2 ⟨xs,H2,I2,r2,q2⟩=>⟨x :: xs,H2,I2,.cons r1 r2,q2⟩
def tTup (t:TA):TE:=fun σ H Q=>t σ H fun xs H1=>xs.length≤sizeLine∧∀ p,H1 p = none→Q (.ref p) (upd H1 p (.tup xs))
def tLst (t:TA):TE:=fun σ H Q=>t σ H fun xs H1=>xs.length≤sizeLine∧∀ p,H1 p = none→Q (.ref p) (upd H1 p (.lst xs))
theorem pe_tup {x1} (h:PA X es t):PE X (.Tuple es x1 pos) (tTup t):=by
 intro pins s σ H Q I hq
 refine wpAny_Tuple_spliced (thn (h pos pins s σ H _ I hq) fun us s1 ⟨xs,H1,I1,r,z,q⟩=>⟨by rw [← r.length]; exact z,?_⟩)
 have hf:H1 s1.heap.objs.size = none:=I1.hok.fresh (Nat.le_refl _)
 refine ⟨.ref s1.heap.objs.size,upd H1 s1.heap.objs.size (.tup xs),I1.laid (t':=s1.toks) (fun b u e=>Heap.get?_push_of_some _ e) (Nat.le_refl _) ?_,rfl,q _ hf⟩
 exact ⟨z,us,r,⟨_,Heap.get?_push_size _ rfl,rfl,_,rfl⟩⟩
theorem pe_lst (h:PA X es t):PE X (.List es pos) (tLst t):=by
 intro pins s σ H Q I hq
 refine wpAny_List_spliced (thn (h pos pins s σ H _ I hq) fun us s1 ⟨xs,H1,I1,r,z,q⟩=>⟨by rw [← r.length]; exact z,?_⟩)
 have hf:H1 s1.heap.objs.size = none:=I1.hok.fresh (Nat.le_refl _)
 refine ⟨.ref s1.heap.objs.size,upd H1 s1.heap.objs.size (.lst xs),I1.laid (t':=s1.toks) (fun b u e=>Heap.get?_push_of_some _ e) (Nat.le_refl _) ?_,rfl,q _ hf⟩
 exact ⟨z,us,0,r,Heap.get?_push_size _ rfl⟩
end
abbrev Sp:=List V→Hp→VK→XK→Prop
abbrev CXT:=List Env→Hp→Shared→XK→Value→Shared→Prop
structure Env0 (P:Program) (w:World) (K:PySem.W.Frag) (mg:Str→Option Value) (base:Heap) (A:Around) (outer:List Env) (s:Shared) (H:Hp):Prop where
 frames:A.frames = some outer
 mod:Mod K mg base
 bs:∀ b o,base.get? b = some o→s.heap.get? b = some o∧H b = none
 bsz:base.objs.size≤s.heap.objs.size
 funs:s.heap.FunFrames base outer
 frf:∀ b ∈ frs outer,H b = none
 hok:HOk P w H s.heap
 bare:AllBare s.gens
def CE (outer:List Env) (P:Program) (w:World) (H:Hp) (s:Shared) (Q:VK) (u:Value) (s':Shared):Prop :=
 ∃ v H',s'.os = s.os∧AllBare s'.gens∧Un (frs outer) [] H H' s.heap s'.heap∧HOk P w H' s'.heap∧RelV v u∧Q v H'
def CR (CX:CXT) (outer:List Env) (P:Program) (w:World) (H:Hp) (s:Shared) (Q:VK) (E:XK) (r:Result) (s':Shared):Prop :=
 match r with
 | .ok (.ret u)=>CE outer P w H s Q u s'
 | .ok _=>False
 | .error e=>CX outer H s E e s'
structure FnOk (P:Program) (w:World) (K:PySem.W.Frag) (mg:Str→Option Value) (base:Heap) (CX:CXT) (k:Nat) (f:Addr) (fd:FuncData) (ps:List Str) (sp:Sp):Prop where
 len:∀ vs H Q E,sp vs H Q E→vs.length = ps.length
 run:∀ (A:Around) (outer:List Env) (s:Shared) (H:Hp) (args:Args) (us:List Value) (vs:List V) (Q:VK) (E:XK),Room k A→Env0 P w K mg base A outer s H→BindsTo s fd args (ps.zip us)→Vals vs us→sp vs H Q E →
  codeAny (model P w) A (.call (.ref f) args) (CR CX outer P w H s Q E) s
section
variable {X:Cx} {pins:List (Addr × Obj)} {σ:St} {H:Hp} {s s':Shared}
theorem Inv.env0 (I:Inv X pins σ H s):Env0 X.prog X.w X.K X.mg X.base X.A X.stack s H :=
 ⟨I.ok.frames,I.ok.mod,I.bs,Nat.le_trans I.ok.bsz I.sz,I.stack,I.stkFree,I.hok,I.bare⟩
theorem Inv.after {Q:VK} {u:Value} (I:Inv X pins σ H s) (h:CE X.stack X.prog X.w H s Q u s'):EP X pins σ Q u s':=by
 obtain ⟨v,H',os,bare,un,hok,r,q⟩:=h
 obtain ⟨hh,g,d,t,os'⟩:=s'
 obtain rfl:os' = s.os:=os
 exact ⟨v,H',I.call (h':=hh) (g':=g) (d':=d) (t':=t) (ch:=[]) un hok bare (fun b z=>absurd z (by simp)),r,q⟩
end
def tCall (sp:Sp) (dvs:List V) (E:XK) (t:TA):TE:=fun σ H Q=>t σ H fun vs H1=>sp (vs ++ dvs) H1 Q E
def Binds (K:PySem.W.Frag) (fd:FuncData) (ps:List Str) (ds:List Value):Prop :=
 ∀ (s:Shared) (us:List Value),K.In s.heap→(us ++ ds).length = ps.length→BindsTo s fd ⟨us,[]⟩ (ps.zip (us ++ ds))
theorem Binds.all {K:PySem.W.Frag} {fd:FuncData} {ps:List Str} (h:∀ us:List Value,us.length = ps.length→bindArgs fd ⟨us,[]⟩ = pure (ps.zip us)):Binds K fd ps []:=fun s us _ hl=>by
 rw [List.append_nil] at hl ⊢
 exact .of_eq (h us hl)
def Passes (CX:CXT) (X:Cx) (E:XK):Prop:=∀ (pins:List (Addr × Obj)) (σ:St) (H:Hp) (s:Shared) (e:Value) (s':Shared),Inv X pins σ H s→CX X.stack H s E e s'→X.xe e s'
section
variable {X:Cx} {CX:CXT} {k:Nat} {f C:Addr} {fd:FuncData} {ps:List Str} {sp:Sp} {dvs:List V} {ds:List Value} {E:XK} {x m:Str} {p pos apos:Pos} {e o:Expr} {es:List Expr} {ta:TE} {t:TA}
theorem run_fn {pins:List (Addr × Obj)} {σ:St} {H:Hp} {s:Shared} {Q:VK} {us:List Value} {vs:List V} (F:FnOk X.prog X.w X.K X.mg X.base CX k f fd ps sp) (hr:Room k X.A) (hb:Binds X.K fd ps ds) (hd:Vals dvs ds) (hx:Passes CX X E)
  (I:Inv X pins σ H s) (r:Vals vs us) (h:sp (vs ++ dvs) H Q E):wpAny (model X.prog X.w) X.A (call (.ref f) us) (EP X pins σ Q) X.xe s:=by
 have r2:Vals (vs ++ dvs) (us ++ ds):=r.append hd
 have hl:(us ++ ds).length = ps.length:=by rw [← r2.length]; exact F.len _ _ _ _ h
 refine wpAny_call (codeAny_mono (F.run X.A X.stack s H ⟨us,[]⟩ (us ++ ds) (vs ++ dvs) Q E hr I.env0 (hb s us I.kIn hl) r2 h) fun r s' hq=>?_)
 cases r with
 | error e=>exact hx pins σ H s e s' I hq
 | ok fl =>
  cases fl with
  | ret u=>exact I.after hq
  | next=>exact False.elim hq
  | brk=>exact False.elim hq
  | cont=>exact False.elim hq
theorem pe_call (F:FnOk X.prog X.w X.K X.mg X.base CX k f fd ps sp) (hr:Room k X.A) (hg:Gl X x) (hm:X.mg x = some (.ref f)) (hk:PySem.W.keepIn X.K (.ref f) = true) (hb:Binds X.K fd ps ds) (hd:Vals dvs ds) (hx:Passes CX X E)
  (ha:PA X (e :: es) t) (hdb:(x == ("__debug__":Str)) = false:=by decide) (he:starEach (e :: es) X.env = (false,eval e X.env) :: starEach es X.env:=by rfl) (hpl:(backTo pos (starEach es X.env)).any (·.1) = false:=by rfl) :
  PE X (.Call (.Name x p) (e :: es) [] pos) (tCall sp dvs E t):=by
 intro pins s σ H Q I h
 refine wpAny_Call_Name_kw (ld_glob I hg hm ?_ hdb)
 refine PySem.W.callWith_K (h₀:=X.base) I.ok.mod.kin hk (thn (ha pos pins s σ H _ I h) fun us s1 ⟨vs,H1,I1,r,q⟩=>⟨I1.kIn,?_⟩) he hpl
 exact run_fn F hr hb hd hx I1 r q
end
section
variable {X:Cx} {CX:CXT} {k:Nat} {f C:Addr} {fd:FuncData} {ps ks:List Str} {sp:Sp} {E:XK} {x m:Str} {p pos apos kpos:Pos} {e o:Expr} {es:List Expr} {kws:List Keyword} {te ta:TE} {t tk:TA} {nm:Option Str}
variable {g:List Value→List Value→List Value} {gV:List V→List V→List V}
end
structure FnScope (N P:List Str) (sc:Scope):Prop where
 kind:sc.kind = .function
 co:sc.isCoroutine = false
 gen:sc.isGenerator = false
 nd:N.Nodup
 pre:N.take P.length = P
 par:∀ x ∈ P,sc.names.lookup x = some .local∨sc.names.lookup x = some .cell
 nofree:∀ y ∈ sc.names,y.2≠.free
theorem bindL_out {kindOf:Str→Option NameKind} {x:Str}:∀ {binds:List (Str × Value)} {m:Str→Option Value},(∀ v,(x,v) ∉ binds)→bindL kindOf binds m x = m x
 | [],_,_=>rfl
 | (n,v) :: r,m,h=>by
  unfold bindL
  rw [bindL_out fun w hw=>h w (List.mem_cons_of_mem _ hw)]
  split
  ·have:x≠n:=by rintro rfl; exact h v List.mem_cons_self
   simp [this]
  ·rfl
theorem bindC_out {kindOf:Str→Option NameKind} {x:Str}:∀ {binds:List (Str × Value)} {m:Str→Option Value},(∀ v,(x,v) ∉ binds)→bindC kindOf binds m x = m x
 | [],_,_=>rfl
 | (n,v) :: r,m,h=>by
  unfold bindC
  rw [bindC_out fun w hw=>h w (List.mem_cons_of_mem _ hw)]
  split
  ·rfl
  ·have:x≠n:=by rintro rfl; exact h v List.mem_cons_self
   simp [this]
theorem bindL_get {kindOf:Str→Option NameKind} {x:Str} {v:Value}:∀ {P:List Str} {vs:List Value} {i:Nat} {m:Str→Option Value},P.Nodup→P[i]? = some x→vs[i]? = some v→kindOf x = some .local →
  bindL kindOf (P.zip vs) m x = some v
 | [],_,_,_,_,h,_,_=>by simp at h
 | _ :: _,[],_,_,_,_,h,_=>by simp at h
 | p :: P,w :: vs,0,m,nd,h1,h2,hk=>by
  simp at h1 h2; subst h1; subst h2
  show bindL kindOf ((p,w) :: P.zip vs) m p = _
  unfold bindL
  rw [bindL_out fun v hv=>(List.nodup_cons.mp nd).1 (List.of_mem_zip hv).1,if_pos hk]
  simp
 | p :: P,w :: vs,i + 1,m,nd,h1,h2,hk=>by
  show bindL kindOf ((p,w) :: P.zip vs) m x = _
  unfold bindL
  exact bindL_get (i:=i) (List.nodup_cons.mp nd).2 (by simpa using h1) (by simpa using h2) hk
theorem bindC_get {kindOf:Str→Option NameKind} {x:Str} {v:Value}:∀ {P:List Str} {vs:List Value} {i:Nat} {m:Str→Option Value},P.Nodup→P[i]? = some x→vs[i]? = some v→kindOf x≠some .local →
  bindC kindOf (P.zip vs) m x = some v
 | [],_,_,_,_,h,_,_=>by simp at h
 | _ :: _,[],_,_,_,_,h,_=>by simp at h
 | p :: P,w :: vs,0,m,nd,h1,h2,hk=>by
  simp at h1 h2; subst h1; subst h2
  show bindC kindOf ((p,w) :: P.zip vs) m p = _
  unfold bindC
  rw [bindC_out fun v hv=>(List.nodup_cons.mp nd).1 (List.of_mem_zip hv).1,if_neg hk]
  simp
 | p :: P,w :: vs,i + 1,m,nd,h1,h2,hk=>by
  show bindC kindOf ((p,w) :: P.zip vs) m x = _
  unfold bindC
  exact bindC_get (i:=i) (List.nodup_cons.mp nd).2 (by simpa using h1) (by simpa using h2) hk
def start (N:List Str) (vs:List V):St:=vs.map some ++ List.replicate (N.length - vs.length) none
def cxOf (CX:CXT) (P:Program) (w:World) (K:PySem.W.Frag) (mg:Str→Option Value) (base:Heap) (N:List Str) (qual:Str) (scope:Scope) (f:Addr) (cd:Value) (A:Around) (outer:List Env) (s:Shared) (H:Hp) (E:XK):Cx where
 prog:=P
 w:=w
 K:=K
 mg:=mg
 base:=base
 A:=A.deeper (envOfC qual scope s.heap.objs.size f cd)
 N:=N
 s_0:=s
 H_0:=H
 env:=envOfC qual scope s.heap.objs.size f cd
 outer:=outer
 stack:=envOfC qual scope s.heap.objs.size f cd :: outer
 ex:=[]
 calm:=true
 fn:=fun _=>true
 pn:=[]
 xe:=fun e s'=>wpAny (model P w) (A.deeper (envOfC qual scope s.heap.objs.size f cd)) (leaving (envOfC qual scope s.heap.objs.size f cd) e) (fun _ s''=>CX outer H s E e s'') (fun e' s''=>CX outer H s E e' s'') s'
theorem cell_has {sc:Scope} {n:Nat} {x:Str} (h:sc.names.lookup x = some .cell):∃ c,(cellsFrom n sc.names []).lookup x = some c:=by
 have q:=PySem.W.cellsFrom_some sc.names n [] (.inl h)
 exact Option.isSome_iff_exists.mp q
theorem inv_start {CX:CXT} {P:Program} {w:World} {K:PySem.W.Frag} {mg:Str→Option Value} {base:Heap} {N ps:List Str} {qual:Str} {scope:Scope} {f:Addr} {cd:Value} {A:Around} {outer:List Env} {s s1:Shared} {H:Hp} {E:XK} {us:List Value} {vs:List V}
  (S:FnScope N ps scope) (hd:A.handled = none) (e0:Env0 P w K mg base A outer s H) (hl:vs.length = ps.length) (r:Vals vs us)
  (x:InCallC s s.heap.objs.size (bindL (envOfC qual scope s.heap.objs.size f cd).kindOf (ps.zip us) fun _=>none) (cellsFrom (s.heap.objs.size + 1) scope.names []) (bindC (envOfC qual scope s.heap.objs.size f cd).kindOf (ps.zip us) fun _=>none) s1) :
  Inv (cxOf CX P w K mg base N qual scope f cd A outer s H E) [] (start N vs) H s1:=by
 have hpl:ps.length≤N.length:=by have:=congrArg List.length S.pre; rw [List.length_take] at this; omega
 obtain ⟨h1,tk,rfl,hk⟩:=x.done
 have noA:∀ b:Addr,b ∉ (cxOf CX P w K mg base N qual scope f cd A outer s H E).ex:=fun b z=>absurd (show b ∈ ([]:List Addr) from z) (by simp)
 refine ⟨⟨e0.mod,S.kind,rfl,rfl,Nat.le_refl _,fun y z c h1 h2=>?_,fun y hy=>?_,fun y c _ h=>?_,fun _=>hd,Around.frames_deeper e0.frames,.inr ⟨rfl,rfl⟩,fun b z=>absurd z (noA b),e0.bs,e0.bsz,fun b _ _=>noA b,fun b z=>absurd z (noA b),e0.funs,e0.frf⟩,
  rfl,e0.bare,Un.kept hk,⟨_,x.toInCall.ns,fun i y v h1 h2 h3=>?_⟩,fun y c h=>⟨_,x.cell y c h⟩,e0.hok.fresh (Nat.le_refl _),fun y c h=>?_,fun p hp=>absurd (show p ∈ ([]:List (Addr × Obj)) from hp) (by simp),e0.hok.kept hk,?_⟩
 ·exact name_of_addr x.apart (PySem.mem_of_lookup h1) (PySem.mem_of_lookup h2)
 ·have hy:scope.names.lookup y = some .cell∨scope.names.lookup y = some .free:=hy
  rcases hy with hy | hy
  ·exact cell_has hy
  ·exact absurd rfl (S.nofree _ (PySem.mem_of_lookup hy))
 ·exact Nat.le_of_lt (x.above y c (PySem.mem_of_lookup h))
 ·have hi:i < vs.length:=by
   unfold start at h2
   by_cases hi:i < vs.length
   ·exact hi
   ·rw [List.getElem?_append_right (by simpa using hi)] at h2
    rw [List.getElem?_replicate] at h2
    split at h2 <;> cases h2
  have ha:vs[i]? = some v:=by
   unfold start at h2
   rw [List.getElem?_append_left (by simpa using hi),List.getElem?_map] at h2
   cases e:vs[i]? with
   | none=>rw [e] at h2; cases h2
   | some a=>rw [e] at h2; cases h2; rfl
  obtain ⟨u,hu,rv⟩:=r.get ha
  have hp:ps[i]? = some y:=by
   rw [← S.pre,List.getElem?_take_of_lt (by omega)]; exact h1
  have ndP:ps.Nodup:=by rw [← S.pre]; exact S.nd.sublist (List.take_sublist _ _)
  refine ⟨u,rv,?_⟩
  rcases S.par y (List.mem_of_getElem? hp) with k | k
  ·exact .inl ⟨k,bindL_get ndP hp hu k⟩
  ·obtain ⟨c,e⟩:=cell_has (n:=s.heap.objs.size + 1) k
   refine .inr ⟨.inl k,c,e,?_⟩
   have q:=x.cell y c e
   rw [bindC_get ndP hp hu (by show scope.names.lookup y≠_; rw [k]; decide)] at q
   exact q
 ·exact e0.hok.fresh (Nat.le_of_lt (x.above y c (PySem.mem_of_lookup h)))
 ·unfold start
  show _ = N.length
  rw [List.length_append,List.length_map,List.length_replicate]
  omega
theorem fn_of {CX:CXT} {P:Program} {w:World} {K:PySem.W.Frag} {mg:Str→Option Value} {base:Heap} {k:Nat} {f:Addr} {name qual:Str} {params:Arguments} {body:List Stmt} {scope:Scope} {dV kV doc pm cdv ct oc:Value} {an od:Option Addr}
  {osl:Array (Option Value)} {N ps:List Str} {sp:Sp} (lk:K.lookup f = some ⟨oc,od,.func (PySem.W.fnOf name qual params body scope dV kV doc pm an cdv ct),osl⟩) (hcd:PySem.W.codeIn K cdv qual = true) (S:FnScope N ps scope)
  (len:∀ vs H Q E,sp vs H Q E→vs.length = ps.length)
  (hbody:∀ (A:Around) (outer:List Env) (s:Shared) (H:Hp) (vs:List V) (Q:VK) (E:XK),Room k (A.deeper (envOfC qual scope s.heap.objs.size f cdv))→sp vs H Q E →
   ∃ t,PSs (cxOf CX P w K mg base N qual scope f cdv A outer s H E) body t∧t { nx:=fun _ H'=>Q .non H',rt:=Q } (start N vs) H) :
  FnOk P w K mg base CX (k + 1) f (PySem.W.fnOf name qual params body scope dV kV doc pm an cdv ct) ps sp:=by
 refine ⟨len,fun A outer s H args us vs Q E hr e0 hb r hsp=>?_⟩
 have hl:=len _ _ _ _ hsp
 have KX:K.In s.heap:=e0.mod.kin.keeps fun b o e=>(e0.bs b o e).1
 have lim:s.heap.NoLimit:=e0.mod.nolimit.keeps fun b o e=>(e0.bs b o e).1
 have hkind:∀ y ∈ ps.zip us,scope.names.lookup y.1 = some .local∨(scope.names.lookup y.1 = some .cell∧((cellsFrom (s.heap.objs.size + 1) scope.names []).lookup y.1).isSome = true):=fun ⟨n,v⟩ hy=>by
  rcases S.par n (List.of_mem_zip hy).1 with q | q
  ·exact .inl q
  ·exact .inr ⟨q,PySem.W.cellsFrom_some _ _ _ (.inl q)⟩
 refine codeAny_call_function hr.depth (KX _ _ lk) rfl S.co S.gen rfl (PySem.W.codeRec_of KX hcd) (hb _ _ _ _ ?_)
 refine wpAny_newFunctionEnv_cells S.kind hkind fun env he s1 x=>?_
 subst he
 refine ⟨lim.keeps x.toInCall.keep,codeAny_func ?_⟩
 obtain ⟨t,ht,hq⟩:=hbody A outer s H vs Q E (hr.deeper _) hsp
 have I:Inv (cxOf CX P w K mg base N qual scope f cdv A outer s H E) [] (start N vs) H s1:=inv_start S hr.hd e0 hl r x
 refine wpAny_mono (ht [] s1 (start N vs) H _ I hq) (fun fl s' hs=>?_) fun e s' hs=>hs
 have fin:∀ {σ':St} {H':Hp} {v:V} {u:Value},Inv (cxOf CX P w K mg base N qual scope f cdv A outer s H E) [] σ' H' s'→RelV v u→Q v H'→CE outer P w H s Q u s' :=
  fun {σ' H' v u} J rv q=>⟨v,H',J.os,J.bare,J.base,J.hok,rv,q⟩
 cases fl with
 | ret u =>
  obtain ⟨v,σ',H',J,rv,q⟩:=hs
  exact fin J rv q
 | next =>
  obtain ⟨σ',H',J,q⟩:=hs
  exact fin (v:=V.non) (u:=Value.none) J rfl q
 | brk =>
  obtain ⟨_,_,_,q⟩:=hs
  exact False.elim q
 | cont =>
  obtain ⟨_,_,_,q⟩:=hs
  exact False.elim q
end L2
namespace L2
open PySem PySem.Spec PyProof.Rows
section
variable {X:Cx} {x:Str} {p pos:Pos} {e:Expr} {es:List Expr} {t:TA} {id T:String} {r:List V→Hp→VK→Prop}
def tCB (r:List V→Hp→VK→Prop) (t:TA):TE:=fun σ H Q=>t σ H fun vs H1=>r vs H1 Q
theorem pe_callB (hc:CallR X (.builtin id) r) (hg:Gl X x) (hm:X.mg x = none) (hv:bootBuiltins x = some (.builtin id)) (ha:PA X (e :: es) t) (hn:x≠"__name__":=by decide) (hdb:(x == ("__debug__":Str)) = false:=by decide)
  (he:starEach (e :: es) X.env = (false,eval e X.env) :: starEach es X.env:=by rfl) (hpl:(backTo pos (starEach es X.env)).any (·.1) = false:=by rfl):PE X (.Call (.Name x p) (e :: es) [] pos) (tCB r t):=by
 intro pins s σ H Q I h
 refine wpAny_Call_Name_kw (ld_blt I hg hm hv ?_ hn hdb)
 exact PyProof.Rows.callWith_builtin1 (thn (ha pos pins s σ H _ I h) fun us s1 ⟨vs,H1,I1,r1,q1⟩=>hc pins s1 σ H1 vs us Q I1 r1 q1) he hpl
theorem pe_callTy (hc:CallR X (.type T) r) (hg:Gl X x) (hm:X.mg x = none) (hv:bootBuiltins x = some (.type T)) (ha:PA X (e :: es) t) (hn:x≠"__name__":=by decide) (hdb:(x == ("__debug__":Str)) = false:=by decide)
  (he:starEach (e :: es) X.env = (false,eval e X.env) :: starEach es X.env:=by rfl) (hpl:(backTo pos (starEach es X.env)).any (·.1) = false:=by rfl):PE X (.Call (.Name x p) (e :: es) [] pos) (tCB r t):=by
 intro pins s σ H Q I h
 refine wpAny_Call_Name_kw (ld_blt I hg hm hv ?_ hn hdb)
 exact PyProof.Rows.callWith_type1 (thn (ha pos pins s σ H _ I h) fun us s1 ⟨vs,H1,I1,r1,q1⟩=>hc pins s1 σ H1 vs us Q I1 r1 q1) he hpl
end
end L2
namespace HT
open PySem PyProof.Rows
section
open PySem.SeqAt
open PySem.AutoSeq1 (wpAny_loadPart')
open PySem.MeetsSeq PySem.MeetsSeq2 PySem.MeetsSeq3
end
section
variable {prog:Program} {w:World} {A:Around} {E:Value→Shared→Prop} {s:Shared}
def sIx (n d:Nat):Option Int→Nat
 | none=>d
 | some v=>if v < 0 then (v + (n:Int)).toNat else min v.toNat n
theorem sIx_none (n d:Nat):sIx n d none = d:=rfl
theorem sIx_nat (n d k:Nat):sIx n d (some (k:Int)) = min k n:=by
 show (if (k:Int) < 0 then ((k:Int) + (n:Int)).toNat else min (k:Int).toNat n) = min k n
 rw [if_neg (by omega),Int.toNat_natCast]
theorem sIx_le (n d:Nat) (hd:d≤n) (o:Option Int):sIx n d o≤n:=by
 cases o with
 | none=>exact hd
 | some v =>
  show (if v < 0 then (v + (n:Int)).toNat else min v.toNat n)≤n
  by_cases hv:v < 0
  ·rw [if_pos hv]; omega
  ·rw [if_neg hv]; exact Nat.min_le_right _ _
theorem clip_eq (v:Int) (n d:Nat):(if v < 0 then max (v + (n:Int)) 0 else min v (n:Int)) = ((sIx n d (some v):Nat):Int):=by
 show (if v < 0 then max (v + (n:Int)) 0 else min v (n:Int)) = (((if v < 0 then (v + (n:Int)).toNat else min v.toNat n):Nat):Int)
 by_cases hv:v < 0
 ·simp only [if_pos hv]; omega
 ·simp only [if_neg hv]; omega
theorem adjust_gen (lo hi:Option Int) (n:Nat):Builtin.Slice.sliceAdjust lo hi 1 (n:Int) = (((sIx n 0 lo:Nat):Int),((sIx n n hi:Nat):Int)):=by
 have h1:¬ ((1:Int) < 0):=by omega
 unfold Builtin.Slice.sliceAdjust
 simp only [h1,if_false]
 refine Prod.ext ?_ ?_
 ·cases lo with
  | none=>rfl
  | some v=>exact clip_eq v n 0
 ·cases hi with
  | none=>rfl
  | some v=>exact clip_eq v n n
theorem places_gen (i j:Nat):Builtin.Slice.slicePlaces (i:Int) (j:Int) 1 = j - i:=by
 unfold Builtin.Slice.slicePlaces
 have h1:(1:Int) > 0:=by omega
 simp only [h1,if_true,Int.ediv_one]
 split <;> omega
theorem slicePart_ {v:Value} {o:Option Int} {Q:Option Int→Shared→Prop} (p:IsPart v o) (h:Q o s):wpAny (model prog w) A (Builtin.Slice.slicePartIndex v) Q E s:=by
 cases p with
 | none=>exact slicePart_none h
 | int i t=>exact slicePart_int h
theorem sliceApplied_gen {sl:Addr} {vl vu:Value} {lo hi:Option Int} {n:Nat} {Q:Int × Int × Nat→Shared→Prop} (hs:s.heap.IsSliceOf sl vl vu .none) (pl:IsPart vl lo) (pu:IsPart vu hi)
  (h:Q (((sIx n 0 lo:Nat):Int),1,sIx n n hi - sIx n 0 lo) s):wpAny (model prog w) A (Builtin.Slice.sliceApplied (.ref sl) (pure (n:Int))) Q E s:=by
 obtain ⟨os,hos,hcs,hds⟩:=id hs
 unfold Builtin.Slice.sliceApplied Builtin.Slice.sliceFields
 refine wpAny_bind (wpAny_bind (wpAny_field hos hds (x:=vl) rfl (wpAny_bind (wpAny_field hos hds (x:=vu) rfl (wpAny_bind (wpAny_field hos hds (x:=.none) rfl (wpAny_pure ?_)))))))
 refine wpAny_bind (slicePart_none ?_)
 show wpAny _ _ (if ((1:Int) == 0) = true then _ else _) _ _ s
 rw [if_neg (by decide)]
 refine wpAny_bind (slicePart_ pl (wpAny_bind (slicePart_ pu (wpAny_bind (wpAny_pure ?_)))))
 show wpAny _ _ (match Builtin.Slice.sliceAdjust lo hi 1 (n:Int) with | (lo,hi)=>pure (lo,(1:Int),Builtin.Slice.slicePlaces lo hi 1)) _ _ s
 rw [adjust_gen lo hi n]
 show wpAny _ _ (pure (((sIx n 0 lo:Nat):Int),(1:Int),Builtin.Slice.slicePlaces ((sIx n 0 lo:Nat):Int) ((sIx n n hi:Nat):Int) 1)) _ _ s
 rw [places_gen]
 exact wpAny_pure h
theorem pick_gen (xs:Array Value) (i k:Nat):((List.range k).filterMap fun (m:Nat)=>xs[((i:Int) + (m:Int) * 1).toNat]?).toArray = ((xs.toList.drop i).take k).toArray:=by
 have e:(fun (m:Nat)=>xs[((i:Int) + (m:Int) * 1).toNat]?) = fun m=>xs[i + m]?:=by
  funext m
  have:((i:Int) + (m:Int) * 1).toNat = i + m:=by omega
  rw [this]
 rw [e]
 have:=pick_run xs i k
 rw [List.filterMap_map] at this
 have e2:((fun x=>xs[x]?) ∘ fun x=>i + x) = fun m=>xs[i + m]?:=rfl
 rw [e2] at this
 rw [this]
theorem getItem_tuple_cut {t sl:Addr} {items:Array Value} {vl vu:Value} {lo hi:Option Int} {Q:Value→Shared→Prop} (ht:IsTup s.heap t items) (hs:s.heap.IsSliceOf sl vl vu .none) (pl:IsPart vl lo) (pu:IsPart vu hi)
  (hw:¬ (sIx items.size 0 lo = 0∧sIx items.size items.size hi = items.size))
  (h:Q (.ref s.heap.objs.size) { s with heap:=s.heap.push { cls:=.type "tuple",data:=.seq ((items.toList.drop (sIx items.size 0 lo)).take (sIx items.size items.size hi - sIx items.size 0 lo)).toArray } })
  (hsz:items.size≤sizeLine):wpAny (model prog w) A (getItem (.ref t) (.ref sl)) Q E s:=by
 have htake:sizeOk (.seq ((items.toList.drop (sIx items.size 0 lo)).take (sIx items.size items.size hi - sIx items.size 0 lo)).toArray):=by
  show ((items.toList.drop (sIx items.size 0 lo)).take (sIx items.size items.size hi - sIx items.size 0 lo)).toArray.size≤sizeLine
  rw [List.size_toArray,List.length_take,List.length_drop,Array.length_toList]
  omega
 have hj:sIx items.size items.size hi≤items.size:=sIx_le _ _ (Nat.le_refl _) hi
 obtain ⟨os,hos,hcs,hds⟩:=id hs
 have hTs:s.TypeIs (.ref sl) "slice":=⟨os,hos,hcs⟩
 unfold getItem
 try with_reducible refine wpAny_holding ?_
 first | refine wpAny_bind (wpAny_pure ?_) | skip
 refine wpAny_bind (wpAny_sequenceKey ht.typeIs (by decide) ?_)
 refine wpAny_bind (wpAny_callSpecial?_slot (name:=Str.ofString "__getitem__") ht.typeIs PyProof.Rows.slot_tuple_getitem
  (wpAny_call_entry PyProof.Rows.slot_tuple_getitem ht.typeIs entry_tuple_getitem ?_ (args_tuple_getitem _ _)))
 show wpAny _ _ (Builtin.Tuple.tupleItemsOf (.ref t) >>= _) _ _ s
 refine wpAny_bind (tupleItemsOf_ ht ?_)
 refine wpAny_bind (wpAny_typeOf hTs ?_)
 rw [if_pos (by decide)]
 refine wpAny_bind (sliceApplied_gen hs pl pu ?_)
 have hno:¬ ((((sIx items.size 0 lo:Nat):Int) == 0 && (1:Int) == 1 && (sIx items.size items.size hi - sIx items.size 0 lo) == items.size) = true):=by
  intro q
  rw [Bool.and_eq_true,Bool.and_eq_true] at q
  have q1:((sIx items.size 0 lo:Nat):Int) = 0:=eq_of_beq q.1.1
  have q2:sIx items.size items.size hi - sIx items.size 0 lo = items.size:=eq_of_beq q.2
  exact hw ⟨by omega,by omega⟩
 show wpAny _ _ (if (((sIx items.size 0 lo:Nat):Int) == 0 && (1:Int) == 1 && (sIx items.size items.size hi - sIx items.size 0 lo) == items.size) = true then _ else _) _ _ s
 rw [if_neg hno,pick_gen]
 first
  | exact wpAny_bind (m:=Builtin.Tuple.tupleExact _) (wpAny_newObj_type (wpAny_pure ⟨_,rfl,wpAny_pure h⟩) htake)
  | exact wpAny_bind (m:=Builtin.Tuple.tupleExact _) (wpAny_newObj_type (wpAny_bind (wpAny_pure (wpAny_pure ⟨_,rfl,wpAny_pure h⟩))) htake)
  | exact wpAny_bind (wpAny_bind (m:=Builtin.Tuple.tupleExact _) (wpAny_newObj_type (wpAny_pure (wpAny_pure ⟨_,rfl,wpAny_pure h⟩)) htake))
  | exact wpAny_bind (wpAny_bind (m:=Builtin.Tuple.tupleExact _) (wpAny_newObj_type (wpAny_pure ⟨_,rfl,wpAny_pure h⟩) htake))
end
end HT
namespace L2
open PySem PySem.Spec PyProof.Rows
abbrev TO:=St→Hp→(Option Int→Hp→Prop)→Prop
def PO (X:Cx) (e:Option Expr) (t:TO):Prop :=
 ∀ (pins:List (Addr × Obj)) (s:Shared) (σ:St) (H:Hp) (Q:Option Int→Hp→Prop),Inv X pins σ H s→t σ H Q →
  wpAny (model X.prog X.w) X.A (evalPart e X.env) (fun u s'=>∃ o H',Inv X pins σ H' s'∧IsPart u o∧Q o H') X.xe s
def tNoPart:TO:=fun _ H Q=>Q none H
def tPart (t:TE):TO:=fun σ H Q=>t σ H fun x H1=>∃ i,x = .int i∧Q (some i) H1
section
variable {X:Cx} {e:Expr} {te:TE} {lo hi:Option Expr} {tl th:TO} {pos p2:Pos}
theorem po_none:PO X none tNoPart:=by
 intro pins s σ H Q I h
 rw [evalPart_none]
 exact wpAny_pure ⟨none,H,I,.none,h⟩
theorem po_some (h:PE X e te):PO X (some e) (tPart te):=by
 intro pins s σ H Q I hw
 rw [evalPart_some]
 refine thn (h pins s σ H _ I hw) fun u s1 ⟨x,H1,I1,r1,q1⟩=>?_
 obtain ⟨i,rfl,q⟩:=q1
 obtain ⟨t,rfl⟩:=r1
 exact ⟨some i,H1,I1,.int i t,q⟩
def SlR (X:Cx) (r:V→Option Int→Option Int→Hp→VK→Prop):Prop :=
 ∀ (pins:List (Addr × Obj)) (s:Shared) (σ:St) (H:Hp) (x:V) (v vl vu:Value) (lo hi:Option Int) (sl:Addr) (Q:VK),Inv X pins σ H s→RelV x v→s.heap.IsSliceOf sl vl vu .none→IsPart vl lo→IsPart vu hi→r x lo hi H Q →
  ∃ T id,typeLookup (.type T) "__getitem__" = pure (some (.builtin id))∧s.TypeIs v T∧wpAny (model X.prog X.w) X.A (getItem v (.ref sl)) (EP X pins σ Q) X.xe s
def tSl (r:V→Option Int→Option Int→Hp→VK→Prop) (te:TE) (tl th:TO):TE:=fun σ H Q=>te σ H fun x H1=>tl σ H1 fun l H2=>th σ H2 fun u H3=>r x l u H3 Q
theorem pe_slice {r:V→Option Int→Option Int→Hp→VK→Prop} (hr:SlR X r) (he:PE X e te) (hl:PO X lo tl) (hu:PO X hi th):PE X (.Subscript e (.Slice lo hi none p2) pos) (tSl r te tl th):=by
 intro pins s σ H Q I h
 refine Subscript_ (thn (he pins s σ H _ I h) fun v s1 ⟨x,H1,I1,r1,q1⟩=>?_)
 refine wpAny_Slice (thn (hl pins s1 σ H1 _ I1 q1) fun vl s2 ⟨l,H2,I2,pl,q2⟩=>thn (hu pins s2 σ H2 _ I2 q2) fun vu s3 ⟨u,H3,I3,pu,q3⟩=>?_)
 rw [evalPart_none]
 refine wpAny_pure ?_
 have I4:Inv X pins σ H3 { s3 with heap:=s3.heap.push { cls:=.type "slice",data:=.fields #[vl,vu,.none] } }:=I3.kept (t':=s3.toks) fun b ob q=>Heap.get?_push_of_some _ q
 obtain ⟨T,id,hT,ht,hg⟩:=hr pins { s3 with heap:=s3.heap.push { cls:=.type "slice",data:=.fields #[vl,vu,.none] } } σ H3 x v vl vu l u s3.heap.objs.size Q I4 r1 (Heap.IsSliceOf.new ..) pl pu q3
 show wpAny (model X.prog X.w) X.A (subscriptTail e (.Slice lo hi none p2) v (.ref s3.heap.objs.size)) (EP X pins σ Q) X.xe { s3 with heap:=s3.heap.push { cls:=.type "slice",data:=.fields #[vl,vu,.none] } }
 exact tail_any (ops:=[.ref s3.heap.objs.size,v]) ht hT hg (by with_unfolding_all rfl)
def cutV (xs:List V) (lo hi:Option Int):List V:=(xs.drop (HT.sIx xs.length 0 lo)).take (HT.sIx xs.length xs.length hi - HT.sIx xs.length 0 lo)
theorem cutV_length (xs:List V) (lo hi:Option Int):(cutV xs lo hi).length≤xs.length:=by
 unfold cutV
 rw [List.length_take,List.length_drop]
 omega
def rSlT (K:PySem.W.Frag):V→Option Int→Option Int→Hp→VK→Prop:=fun x lo hi H Q=>∃ a xs,x = .ref a∧SqT K H a xs ∧
 ¬ (HT.sIx xs.length 0 lo = 0∧HT.sIx xs.length xs.length hi = xs.length)∧∀ p,H p = none→Q (.ref p) (upd H p (.tup (cutV xs lo hi)))
theorem sl_tup:SlR X (rSlT X.K):=by
 intro pins s σ H x v vl vu lo hi sl Q I rx hs pl pu h
 obtain ⟨a,xs,rfl,hx,hw,q⟩:=h
 cases rx
 obtain ⟨its,r,ht,hz⟩:=I.tuple hx
 have hlen:its.toArray.size = xs.length:=by rw [List.size_toArray]; exact r.length.symm
 refine ⟨"tuple",_,PyProof.Rows.slot_tuple_getitem.lookup,ht.typeIs,?_⟩
 refine HT.getItem_tuple_cut ht hs pl pu (by rw [hlen]; exact hw) ?_ (by rw [hlen]; exact hz)
 rw [hlen]
 refine ⟨.ref s.heap.objs.size,_,I.laid (t':=s.toks) (o:=.tup (cutV xs lo hi)) (fun b ob q=>Heap.get?_push_of_some _ q) (Nat.le_refl _) ?_,rfl,q _ (I.hok.fresh (Nat.le_refl _))⟩
 exact ⟨Nat.le_trans (cutV_length xs lo hi) hz,_,(r.drop (HT.sIx xs.length 0 lo)).take (HT.sIx xs.length xs.length hi - HT.sIx xs.length 0 lo),IsTup.new _ _⟩
end
end L2
namespace L2
open PySem PySem.Spec PyProof.Rows
def ixN (n:Nat) (i:Int):Option Nat:=if 0≤i then (if i < n then some i.toNat else none) else if -(n:Int)≤i then some (i + n).toNat else none
def atI {α:Type} (xs:List α) (i:Int):Option α:=(ixN xs.length i).bind fun j=>xs[j]?
theorem ixN_seq {n:Nat} {i:Int} {j:Nat} (h:ixN n i = some j):seqIndex? i n = some j∧j < n∧-(n:Int)≤i∧i < n:=by
 unfold ixN at h
 by_cases h0:0≤i
 ·rw [if_pos h0] at h
  by_cases h1:i < n
  ·rw [if_pos h1] at h
   have e:i.toNat = j:=Option.some.inj h
   exact ⟨by rw [seqIndex_of h0 h1,e],by omega,by omega,h1⟩
  ·rw [if_neg h1] at h; cases h
 ·rw [if_neg h0] at h
  by_cases h1:-(n:Int)≤i
  ·rw [if_pos h1] at h
   have e:(i + n).toNat = j:=Option.some.inj h
   exact ⟨by rw [seqIndex_neg (by omega) h1,e],by omega,h1,by omega⟩
  ·rw [if_neg h1] at h; cases h
theorem atI_get {α:Type} {xs:List α} {i:Int} {v:α} (h:atI xs i = some v):∃ j,seqIndex? i xs.length = some j∧xs[j]? = some v∧j < xs.length∧-(xs.length:Int)≤i∧i < xs.length:=by
 unfold atI at h
 cases e:ixN xs.length i with
 | none=>rw [e] at h; cases h
 | some j =>
  rw [e] at h
  obtain ⟨h1,h2,h3,h4⟩:=ixN_seq e
  exact ⟨j,h1,h,h2,h3,h4⟩
theorem atI_nat {α:Type} {xs:List α} {j:Nat} {v:α} (h:xs[j]? = some v):atI xs (j:Int) = some v:=by
 have hj:j < xs.length:=(List.getElem?_eq_some_iff.mp h).1
 have e:ixN xs.length (j:Int) = some j:=by
  unfold ixN
  rw [if_pos (by omega),if_pos (by omega)]; simp
 unfold atI; rw [e]; exact h
theorem atI_last {α:Type} (xs:List α) (v:α):atI (xs ++ [v]) (-1) = some v:=by
 have hl:(xs ++ [v]).length = xs.length + 1:=by simp
 have e:ixN (xs ++ [v]).length (-1) = some xs.length:=by
  unfold ixN
  rw [hl,if_neg (by decide),if_pos (by omega)]
  congr 1
  omega
 unfold atI
 rw [e]
 show (xs ++ [v])[xs.length]? = some v
 simp
def PlainIx (b:Expr):Prop:=∀ o i,subscripted b false o i = operate [o,i] (getItem o i)
def IxR (X:Cx) (r:R2):Prop :=
 ∀ (value slice:Expr) (pins:List (Addr × Obj)) (s:Shared) (σ:St) (H:Hp) (x y:V) (v u:Value) (Q:VK),Inv X pins σ H s→RelV x v→RelV y u→r x y H Q →
  subscripted slice false v u = operate [v,u] (getItem v u)→wpAny (model X.prog X.w) X.A (subscriptTail value slice v u) (EP X pins σ Q) X.xe s
def MtR (X:Cx) (id:String) (r:V→List V→Hp→VK→Prop):Prop :=
 ∀ (pins:List (Addr × Obj)) (s:Shared) (σ:St) (H:Hp) (x:V) (xs:List V) (v:Value) (us:List Value) (Q:VK),Inv X pins σ H s→RelV x v→Vals xs us→r x xs H Q →
  wpAny (model X.prog X.w) X.A (call (.builtin id) (v :: us)) (EP X pins σ Q) X.xe s
section
variable {X:Cx} {a b:Expr} {ta tb:TE} {pos:Pos}
theorem pe_ix {r:R2} (hr:IxR X r) (ha:PE X a ta) (hb:PE X b tb) (hs:PlainIx b):PE X (.Subscript a b pos) (tOp r ta tb):=by
 intro pins s σ H Q I h
 exact Subscript_ (binT ha hb I h fun v u s2 x y H2 I2 rx ry q=>hr a b pins s2 σ H2 x y v u Q I2 rx ry q (hs _ _))
def rIxL (K:PySem.W.Frag):R2:=fun x y H Q=>∃ p xs i v,x = .ref p∧y = .int i∧SqL K H p xs∧atI xs i = some v∧Q v H
def rIxT (K:PySem.W.Frag):R2:=fun x y H Q=>∃ p xs i v,x = .ref p∧y = .int i∧SqT K H p xs∧atI xs i = some v∧Q v H
theorem ix_list:IxR X (rIxL X.K):=by
 intro value slice pins s σ H x y v u Q I rx ry h hs
 obtain ⟨p,xs,i,z,rfl,rfl,hq,he,q⟩:=h
 cases rx
 obtain ⟨t,rfl⟩:=ry
 obtain ⟨its,r,pl,hz⟩:=I.list hq
 obtain ⟨j,h1,h2,h3,h4,h5⟩:=atI_get he
 obtain ⟨w,ew,rw'⟩:=r.get h2
 have hl:=r.length
 have hn:=line63
 have fin:EP X pins σ Q w s:=⟨z,H,I,rw',q⟩
 by_cases h0:0≤i
 ·have hj:i.toNat = j:=by
   rw [seqIndex_of h0 h5] at h1
   exact Option.some.inj h1
  exact item_listR pl.isList h0 (by omega) (by rw [hj]; simpa using ew) fin hs
 ·have hj:(i + (its.toArray.size:Int)).toNat = j:=by
   rw [seqIndex_neg (by omega) h4] at h1
   rw [List.size_toArray,← hl]
   exact Option.some.inj h1
  exact subscriptTail_builtinR (x:=w) pl.isList.typeIs slot_list_getitem.lookup
   (wpAny_getItem_list_neg (Q:=fun r s'=>r = w∧EP X pins σ Q r s') pl.isList (by omega) (by rw [List.size_toArray] <;> omega) (by omega) (by rw [hj]; simpa using ew) ⟨rfl,fin⟩) hs
theorem ix_tup:IxR X (rIxT X.K):=by
 intro value slice pins s σ H x y v u Q I rx ry h hs
 obtain ⟨p,xs,i,z,rfl,rfl,hq,he,q⟩:=h
 cases rx
 obtain ⟨t,rfl⟩:=ry
 obtain ⟨its,r,pl,hz⟩:=I.tuple hq
 obtain ⟨j,h1,h2,h3,h4,h5⟩:=atI_get he
 obtain ⟨w,ew,rw'⟩:=r.get h2
 have hl:=r.length
 have hn:=line63
 have fin:EP X pins σ Q w s:=⟨z,H,I,rw',q⟩
 exact subscriptTail_builtinR (x:=w) pl.typeIs slot_tuple_getitem.lookup
  (getItem_tuple (j:=j) (Q:=fun r s'=>r = w∧EP X pins σ Q r s') pl (by omega) (by omega) (by rw [List.size_toArray,← hl]; exact h1) (by simpa using ew) ⟨rfl,fin⟩) hs
theorem Inv.lst {pins:List (Addr × Obj)} {σ:St} {H:Hp} {s:Shared} {p:Addr} {xs:List V} (I:Inv X pins σ H s) (h:H p = some (.lst xs)) :
  ∃ (its:List Value) (n:Nat),Vals xs its∧s.heap.get? p = some { cls:=.type "list",data:=.seq its.toArray n }∧xs.length≤sizeLine:=by
 obtain ⟨z,its,n,r,e⟩:=I.hok p _ h
 exact ⟨its,n,r,e,z⟩
theorem Inv.lstUpd {pins:List (Addr × Obj)} {σ:St} {H:Hp} {s:Shared} {p:Addr} {xs ys:List V} {its its':List Value} {n n':Nat} {f:Obj→Obj} (I:Inv X pins σ H s) (h:H p = some (.lst xs))
  (ho:s.heap.get? p = some { cls:=.type "list",data:=.seq its.toArray n }) (hf:f { cls:=.type "list",data:=.seq its.toArray n } = { cls:=.type "list",data:=.seq its'.toArray n' }) (r:Vals ys its') (hz:ys.length≤sizeLine) (t:Nat) :
  Inv X pins σ (upd H p (.lst ys)) { s with heap:=s.heap.update p f,toks:=t }:=by
 have e:(s.heap.update p f).get? p = some { cls:=.type "list",data:=.seq its'.toArray n' }:=by
  rw [Heap.get?_update_self f ho (by rw [hf] <;> rfl),hf]
 refine I.write (x:=p) (e:=p) (by rw [h]; trivial) (.inl rfl) (fun b u hb q=>(Heap.get?_update_other _ _ (Ne.symm hb)).trans q) ⟨_,e⟩ ?_
 exact ⟨hz,its',n',r,e⟩
theorem slice_bounds (lo hi:Option Int) (n:Nat):(sliceBounds lo hi none n).1 = ((HT.sIx n 0 lo:Nat):Int)∧(sliceBounds lo hi none n).2.1 = ((HT.sIx n n hi:Nat):Int)∧(sliceBounds lo hi none n).2.2 = 1:=by
 refine ⟨?_,?_,rfl⟩
 ·cases lo with
  | none=>simp [sliceBounds,HT.sIx]
  | some i =>
   simp only [sliceBounds,HT.sIx,Option.getD_none,show (1:Int) > 0 by decide,if_true]
   by_cases h:i < 0
   ·simp only [h,if_true] <;> omega
   ·simp only [h,if_false] <;> omega
 ·cases hi with
  | none=>simp [sliceBounds,HT.sIx]
  | some i =>
   simp only [sliceBounds,HT.sIx,Option.getD_none,show (1:Int) > 0 by decide,if_true]
   by_cases h:i < 0
   ·simp only [h,if_true] <;> omega
   ·simp only [h,if_false] <;> omega
theorem slicePick_cut (its:List Value) (lo hi:Option Int):slicePick its.toArray lo hi none = ((its.drop (HT.sIx its.length 0 lo)).take (HT.sIx its.length its.length hi - HT.sIx its.length 0 lo)).toArray:=by
 obtain ⟨h1,h2,h3⟩:=slice_bounds lo hi its.toArray.size
 unfold slicePick
 rw [h1,h2,h3]
 simp only [sliceRange_one,pick_run,List.size_toArray] <;> rfl
def rSlL (K:PySem.W.Frag):V→Option Int→Option Int→Hp→VK→Prop:=fun x lo hi H Q=>∃ a xs,x = .ref a∧SqL K H a xs∧∀ p,H p = none→Q (.ref p) (upd H p (.lst (cutV xs lo hi)))
theorem sl_list:SlR X (rSlL X.K):=by
 intro pins s σ H x v vl vu lo hi sl Q I rx hs pl pu h
 obtain ⟨a,xs,rfl,hx,q⟩:=h
 cases rx
 obtain ⟨its,r,ht,hz⟩:=I.list hx
 have hlen:=r.length
 refine ⟨"list",_,slot_list_getitem.lookup,ht.isList.typeIs,?_⟩
 refine wpAny_getItem_list_slice ht.isList hs pl pu .none (by simp) ?_ (by rw [List.size_toArray] <;> omega)
 rw [slicePick_cut,← hlen]
 refine ⟨.ref s.heap.objs.size,_,I.laid (t':=s.toks) (o:=.lst (cutV xs lo hi)) (fun b ob q=>Heap.get?_push_of_some _ q) (Nat.le_refl _) ?_,rfl,q _ (I.hok.fresh (Nat.le_refl _))⟩
 exact ⟨Nat.le_trans (cutV_length xs lo hi) hz,_,0,(r.drop (HT.sIx xs.length 0 lo)).take (HT.sIx xs.length xs.length hi - HT.sIx xs.length 0 lo),Heap.get?_push_size _ rfl⟩
def flatV:V→Bool
 | .non=>true
 | .bl _=>true
 | .int _=>true
 | .str _=>true
 | _=>false
def eqV:V→V→Bool
 | .non,.non=>true
 | .bl a,.bl b=>a == b
 | .bl a,.int b=>(if a then 1 else 0) == b
 | .int a,.bl b=>a == (if b then 1 else 0)
 | .int a,.int b=>a == b
 | .str a,.str b=>a == b
 | _,_=>false
theorem eqAt_V {A:Around} {s:Shared} {y x:V} {u v:Value} (ry:RelV y u) (rx:RelV x v) (fy:flatV y = true) (fx:flatV x = true):SeqAt.EqAt A s u v (eqV y x):=by
 cases y with
 | non =>
  cases ry
  cases x with
  | non=>cases rx; exact SeqAt.EqAt.same _
  | bl b=>cases rx; exact SeqAt.EqAt.none_bool b
  | int b=>obtain ⟨t,rfl⟩:=rx; exact SeqAt.EqAt.none_int b t
  | str b=>obtain ⟨t,rfl⟩:=rx; exact SeqAt.EqAt.none_str b t
  | _=>exact absurd (show false = true from fx) Bool.false_ne_true
 | bl a =>
  cases ry
  cases x with
  | non=>cases rx; exact SeqAt.EqAt.bool_none a
  | bl b=>cases rx; exact SeqAt.EqAt.bool_bool a b
  | int b=>obtain ⟨t,rfl⟩:=rx; exact SeqAt.EqAt.bool_int a b t
  | str b=>obtain ⟨t,rfl⟩:=rx; exact SeqAt.EqAt.bool_str a b t
  | _=>exact absurd (show false = true from fx) Bool.false_ne_true
 | int a =>
  obtain ⟨t',rfl⟩:=ry
  cases x with
  | non=>cases rx; exact SeqAt.EqAt.int_none a t'
  | bl b=>cases rx; exact SeqAt.EqAt.int_bool a t' b
  | int b=>obtain ⟨t,rfl⟩:=rx; exact SeqAt.EqAt.int_int a t' b t
  | str b=>obtain ⟨t,rfl⟩:=rx; exact SeqAt.EqAt.int_str a t' b t
  | _=>exact absurd (show false = true from fx) Bool.false_ne_true
 | str a =>
  obtain ⟨t',rfl⟩:=ry
  cases x with
  | non=>cases rx; exact SeqAt.EqAt.str_none a t'
  | bl b=>cases rx; exact SeqAt.EqAt.str_bool a t' b
  | int b=>obtain ⟨t,rfl⟩:=rx; exact SeqAt.EqAt.str_int a t' b t
  | str b=>obtain ⟨t,rfl⟩:=rx; exact SeqAt.EqAt.str_str a t' b t
  | _=>exact absurd (show false = true from fx) Bool.false_ne_true
 | _=>exact absurd (show false = true from fy) Bool.false_ne_true
def eqU (x:V) (u:Value):Bool:=match u with
 | .none=>eqV .non x
 | .bool b=>eqV (.bl b) x
 | .int i _=>eqV (.int i) x
 | .str z _=>eqV (.str z) x
 | _=>false
theorem eqU_of {x y:V} {u:Value} (r:RelV y u) (f:flatV y = true):eqU x u = eqV y x:=by
 cases y with
 | non=>cases r; rfl
 | bl b=>cases r; rfl
 | int i=>obtain ⟨t,rfl⟩:=r; rfl
 | str z=>obtain ⟨t,rfl⟩:=r; rfl
 | _=>exact absurd (show false = true from f) Bool.false_ne_true
theorem any_eqU {x:V}:∀ {xs:List V} {us:List Value},Vals xs us→xs.all flatV = true→us.any (eqU x) = xs.any fun y=>eqV y x
 | _,_,.nil,_=>rfl
 | y :: xs,u :: us,.cons r t,f=>by
  rw [List.all_cons,Bool.and_eq_true] at f
  rw [List.any_cons,List.any_cons,eqU_of r f.1,any_eqU t f.2]
theorem mem_eqAt {A:Around} {s:Shared} {x:V} {v:Value} (rx:RelV x v) (fx:flatV x = true):∀ {xs:List V} {us:List Value},Vals xs us→xs.all flatV = true→∀ u ∈ us,SeqAt.EqAt A s u v (eqU x u)
 | _,_,.nil,_=>fun u hu=>by cases hu
 | y :: xs,u :: us,.cons r t,f=>fun u' hu=>by
  rw [List.all_cons,Bool.and_eq_true] at f
  rcases List.mem_cons.mp hu with rfl | hu
  ·rw [eqU_of r f.1]; exact eqAt_V r rx f.1 fx
  ·exact mem_eqAt rx fx t f.2 u' hu
def inV (x:V) (xs:List V):Bool:=xs.any fun y=>eqV y x
def rIn (K:PySem.W.Frag) (neg:Bool):R2:=fun x y H Q=>∃ p xs,y = .ref p∧(SqL K H p xs∨SqT K H p xs)∧flatV x = true∧xs.all flatV = true∧Q (.bl (if neg then !inV x xs else inV x xs)) H
theorem op_in_seq:OpR X (compareOp .In) (rIn X.K false):=by
 intro pins s σ H x y v u Q I rx ry h
 obtain ⟨p,xs,rfl,hq,fx,fs,q⟩:=h
 cases ry
 rcases hq with hq | hq
 ·obtain ⟨its,r,pl,hz⟩:=I.list hq
  refine SeqAt.in_listAt (eqU x) pl.isList (fun w hw=>mem_eqAt rx fx r fs w (by simpa using hw)) ⟨.bl _,H,I,rfl,?_⟩
  rw [show its.toArray.any (eqU x) = its.any (eqU x) by simp,any_eqU r fs]
  exact q
 ·obtain ⟨its,r,pl,hz⟩:=I.tuple hq
  refine SeqAt.in_tupleAt (eqU x) pl (fun w hw=>mem_eqAt rx fx r fs w (by simpa using hw)) ⟨.bl _,H,I,rfl,?_⟩
  rw [show its.toArray.any (eqU x) = its.any (eqU x) by simp,any_eqU r fs]
  exact q
theorem op_notIn_seq:OpR X (compareOp .NotIn) (rIn X.K true):=by
 intro pins s σ H x y v u Q I rx ry h
 obtain ⟨p,xs,rfl,hq,fx,fs,q⟩:=h
 cases ry
 rcases hq with hq | hq
 ·obtain ⟨its,r,pl,hz⟩:=I.list hq
  refine SeqAt.notIn_listAt (eqU x) pl.isList (fun w hw=>mem_eqAt rx fx r fs w (by simpa using hw)) ⟨.bl _,H,I,rfl,?_⟩
  rw [show its.toArray.any (eqU x) = its.any (eqU x) by simp,any_eqU r fs]
  exact q
 ·obtain ⟨its,r,pl,hz⟩:=I.tuple hq
  refine SeqAt.notIn_tupleAt (eqU x) pl (fun w hw=>mem_eqAt rx fx r fs w (by simpa using hw)) ⟨.bl _,H,I,rfl,?_⟩
  rw [show its.toArray.any (eqU x) = its.any (eqU x) by simp,any_eqU r fs]
  exact q
theorem call_len_seq:CallR X (.builtin "len") (fun xs H Q=>∃ p ys,xs = [.ref p]∧(SqL X.K H p ys∨SqT X.K H p ys)∧Q (.int ys.length) H):=by
 intro pins s σ H xs us Q I r h
 obtain ⟨p,ys,rfl,hq,q⟩:=h
 obtain ⟨u,rfl,rx⟩:=vals1 r
 cases rx
 have hn:=line63
 rcases hq with hq | hq
 ·obtain ⟨its,r',pl,hz⟩:=I.list hq
  have hlen:=r'.length
  exact Calls.call_len_list pl.isList (by simp only [List.size_toArray] <;> omega) ⟨.int ys.length,H,I.tok _,⟨s.toks + 1,by rw [List.size_toArray,hlen]⟩,q⟩
 ·obtain ⟨its,r',pl,hz⟩:=I.tuple hq
  have hlen:=r'.length
  exact len_tuple pl (by simp only [List.size_toArray] <;> omega) ⟨.int ys.length,H,I.tok _,⟨s.toks + 1,by rw [List.size_toArray,hlen]⟩,q⟩
theorem call_list_of:CallR X (.type "list") (fun xs H Q=>∃ p ys,xs = [.ref p]∧(SqL X.K H p ys∨SqT X.K H p ys)∧∀ l,H l = none→Q (.ref l) (upd H l (.lst ys))):=by
 intro pins s σ H xs us Q I r h
 obtain ⟨p,ys,rfl,hq,q⟩:=h
 obtain ⟨u,rfl,rx⟩:=vals1 r
 cases rx
 have fin:∀ (its:List Value),Vals ys its→ys.length≤sizeLine→∀ (h':Heap) (c':Nat),(∀ b o',s.heap.get? b = some o'→h'.get? b = some o') →
   h'.get? s.heap.objs.size = some { cls:=.type "list",dict:=none,data:=.seq its.toArray c',slots:=#[] }→EP X pins σ Q (.ref s.heap.objs.size) { s with heap:=h' }:=fun its r' hz h' c' kp e =>
  ⟨.ref s.heap.objs.size,_,I.laid (t':=s.toks) kp (Nat.le_refl _) (show ObjOk X.prog X.w _ h' _ (.lst ys) from ⟨hz,its,c',r',e⟩),rfl,q _ (I.hok.fresh (Nat.le_refl _))⟩
 rcases hq with hq | hq
 ·obtain ⟨its,r',pl,hz⟩:=I.list hq
  have hlen:=r'.length
  obtain ⟨o,ho,hc,n,hd⟩:=pl.isList
  exact call_list_seq p (.inl rfl) ho hc hd (fun h' c' kp e=>fin its r' hz h' c' kp e) (by simp only [List.size_toArray] <;> omega)
 ·obtain ⟨its,r',pl,hz⟩:=I.tuple hq
  have hlen:=r'.length
  obtain ⟨o,ho,hc,n,hd⟩:=pl
  exact call_list_seq p (.inr rfl) ho hc hd (fun h' c' kp e=>fin its r' hz h' c' kp e) (by simp only [List.size_toArray] <;> omega)
theorem call_tuple_of:CallR X (.type "tuple") (fun xs H Q=>∃ p ys,xs = [.ref p]∧((SqL X.K H p ys∧∀ l,H l = none→Q (.ref l) (upd H l (.tup ys)))∨(SqT X.K H p ys∧Q (.ref p) H))):=by
 intro pins s σ H xs us Q I r h
 obtain ⟨p,ys,rfl,h⟩:=h
 obtain ⟨u,rfl,rx⟩:=vals1 r
 cases rx
 rcases h with ⟨hq,q⟩ | ⟨hq,q⟩
 ·obtain ⟨its,r',pl,hz⟩:=I.list hq
  have hlen:=r'.length
  refine call_tuple_list pl.isList (fun h' kp=>?_) (by simp only [List.size_toArray] <;> omega)
  have I1:Inv X pins σ H { s with heap:=h' }:=I.kept (t':=s.toks) kp
  have I2:Inv X pins σ (upd H h'.objs.size (.tup ys)) { s with heap:=h'.push { cls:=.type "tuple",data:=.seq its.toArray } } :=
   I1.laid (t':=s.toks) (fun b o e=>Heap.get?_push_of_some _ e) (Nat.le_refl _) (show ObjOk X.prog X.w _ _ _ (.tup ys) from ⟨hz,its,r',IsTup.new _ _⟩)
  exact ⟨.ref h'.objs.size,_,I2,rfl,q _ (I1.hok.fresh (Nat.le_refl _))⟩
 ·obtain ⟨its,r',pl,hz⟩:=I.tuple hq
  exact call_tuple_same pl ⟨.ref p,H,I,rfl,q⟩
def tyV (K:PySem.W.Frag) (T:String) (x:V) (H:Hp):Prop:=match x with
 | .str _=>T = "str"
 | .int _=>T = "int"
 | .ref p=>(T = "list"∧∃ xs,SqL K H p xs)∨(T = "tuple"∧∃ o,K.lookup p = some o∧o.cls = .type "tuple"∧o.dict = none) ∨
   (T = "dict"∧((∃ kvs,H p = some (.dK kvs))∨∃ kvs,H p = some (.dT kvs)))∨(T = "set"∧∃ S n,H p = some (.set S n))
 | _=>False
theorem tyV_is {pins:List (Addr × Obj)} {σ:St} {H:Hp} {s:Shared} {T:String} {x:V} {v:Value} (I:Inv X pins σ H s) (r:RelV x v) (ty:tyV X.K T x H) :
  s.TypeIs v T∧∀ a,v = .ref a→∃ ob,s.heap.get? a = some ob∧ob.dict = none:=by
 cases x with
 | str z =>
  obtain ⟨t,rfl⟩:=r
  cases (show T = "str" from ty)
  exact ⟨typeIs_str s z t,fun _ e=>nomatch e⟩
 | int i =>
  obtain ⟨t,rfl⟩:=r
  cases (show T = "int" from ty)
  exact ⟨typeIs_int s i t,fun _ e=>nomatch e⟩
 | ref p =>
  cases r
  rcases ty with ⟨rfl,xs,hq⟩ | ⟨rfl,o,hk,hc,hd⟩ | ⟨rfl,hk⟩ | ⟨rfl,S,n,hk⟩
  ·obtain ⟨its,_,pl,_⟩:=I.list hq
   refine ⟨pl.isList.typeIs,fun a e=>?_⟩
   cases e
   obtain ⟨o,n,e,c,hd,_⟩:=pl
   exact ⟨o,e,hd⟩
  ·refine ⟨⟨o,I.kIn p o hk,hc⟩,fun a e=>?_⟩
   cases e
   exact ⟨o,I.kIn _ o hk,hd⟩
  ·have z:∃ o,s.heap.get? p = some o∧o.ExactDict:=by
    rcases hk with ⟨kvs,hk⟩ | ⟨kvs,hk⟩
    ·obtain ⟨_,_,_,_,o,_,_,e,ex,_⟩:=I.hok p _ hk
     exact ⟨o,e,ex⟩
    ·obtain ⟨_,_,_,_,o,_,_,e,ex,_⟩:=I.hok p _ hk
     exact ⟨o,e,ex⟩
   obtain ⟨o,e,ex⟩:=z
   refine ⟨⟨o,e,ex.1⟩,fun a e2=>?_⟩
   cases e2
   exact ⟨o,e,ex.2.1⟩
  ·obtain ⟨o,_,_,_,e,ex,_⟩:=I.hok p _ hk
   refine ⟨⟨o,e,ex.1⟩,fun a e2=>?_⟩
   cases e2
   exact ⟨o,e,ex.2.1⟩
 | _=>exact False.elim ty
def tBM0 (K:PySem.W.Frag) (T:String) (r:V→List V→Hp→VK→Prop) (to:TE):TE:=fun σ H Q=>to σ H fun x H1=>tyV K T x H1∧r x [] H1 Q
def tBM (K:PySem.W.Frag) (T:String) (r:V→List V→Hp→VK→Prop) (to:TE) (t:TA):TE:=fun σ H Q=>to σ H fun x H1=>tyV K T x H1∧t σ H1 fun xs H2=>r x xs H2 Q
variable {o e:Expr} {es:List Expr} {to:TE} {t:TA} {name:Str} {apos cpos:Pos} {T id:String} {r:V→List V→Hp→VK→Prop}
theorem pe_bm0 (pa:PlainAttrs T) (slot:Slot T name id) (hty:typeOf (.builtin id) = pure (.type "method_descriptor")) (hm:MtR X id r) (ho:PE X o to)
  (hbase:attributeBase o name X.env (eval o X.env) = eval o X.env:=by rfl) (hline:(apos.endLine == cpos.line) = true:=by rfl):PE X (.Call (.Attribute o name apos) [] [] cpos) (tBM0 X.K T r to):=by
 intro pins s σ H Q I h
 refine wpAny_Call_method0_late hbase hline (thn (ho pins s σ H _ I h) fun v s1 ⟨x,H1,I1,r1,ty,q1⟩=>?_)
 obtain ⟨h1,h2⟩:=tyV_is I1 r1 ty
 exact ⟨T,id,pa,slot,hty,h1,h2,Calls.callWith_builtin rfl (PySem.evalArgs_none (hm pins s1 σ H1 x [] v [] Q I1 r1 .nil q1))⟩
theorem pe_bm (pa:PlainAttrs T) (slot:Slot T name id) (hty:typeOf (.builtin id) = pure (.type "method_descriptor")) (hm:MtR X id r) (ho:PE X o to) (ha:PA X (e :: es) t)
  (hbase:attributeBase o name X.env (eval o X.env) = eval o X.env:=by rfl)
  (hfew:((backTo cpos (starEach (e :: es) X.env)).all (fun x=>!x.1) && (backToKw cpos (keywordEach [] X.env)).all (fun x=>x.1.isSome)
   && decide ((e :: es).length + ([]:List Keyword).length + (if ([]:List Keyword).isEmpty then 0 else 1) < 30)) = true:=by rfl)
  (hline:(apos.endLine == cpos.line) = true:=by rfl) (hs:starEach (e :: es) X.env = (false,eval e X.env) :: starEach es X.env:=by rfl) (hplain:(backTo cpos (starEach es X.env)).any (·.1) = false:=by rfl) :
  PE X (.Call (.Attribute o name apos) (e :: es) [] cpos) (tBM X.K T r to t):=by
 intro pins s σ H Q I h
 refine wpAny_Call_method_late hbase hfew hline rfl (thn (ho pins s σ H _ I h) fun v s1 ⟨x,H1,I1,r1,ty,q1⟩=>?_)
 obtain ⟨h1,h2⟩:=tyV_is I1 r1 ty
 refine ⟨T,id,pa,slot,hty,h1,h2,?_⟩
 have hA:=ha cpos pins s1 σ H1 _ I1 q1
 rw [hs] at hA ⊢
 refine Calls.callWith_builtin (by show (false || (backTo cpos (starEach es X.env)).any (·.1)) = false; rw [hplain] <;> rfl) (Calls.evalArgs_plain ?_)
 exact thn hA fun us s2 ⟨vs,H2,I2,r2,q2⟩=>hm pins s2 σ H2 x vs v us Q I2 r1 r2 q2
/- xs.append(e),list.index on a module's tuple .. are MtR facts of 06m -/
end
end L2
namespace L2
open PySem PySem.Spec PyProof.Rows
def MtM (X:Cx) (id:String) (r:V→List V→Hp→VK→Prop):Prop :=
 ∀ (pins:List (Addr × Obj)) (s:Shared) (σ:St) (H:Hp) (x:V) (xs:List V) (v:Value) (us:List Value) (Q:VK),Inv X pins σ H s→RelV x v→Vals xs us→r x xs H Q →
  wpAny (model X.prog X.w) X.A (call (.builtin id) (v :: us)) (EP X pins σ Q) X.xe s
theorem Vals.one:∀ {x:V} {us:List Value},Vals [x] us→∃ u,us = [u]∧RelV x u
 | _,_,.cons r .nil=>⟨_,rfl,r⟩
theorem Vals.two:∀ {x y:V} {us:List Value},Vals [x,y] us→∃ u v,us = [u,v]∧RelV x u∧RelV y v
 | _,_,_,.cons r (.cons q .nil)=>⟨_,_,rfl,r,q⟩
theorem Vals.zero:∀ {us:List Value},Vals [] us→us = []
 | _,.nil=>rfl
theorem Vals.dropLast {xs:List V} {us:List Value} (h:Vals xs us):Vals xs.dropLast us.dropLast:=by
 induction h with
 | nil=>exact .nil
 | cons r t ih =>
  cases t with
  | nil=>exact .nil
  | cons q t'=>exact .cons r ih
theorem erase_last {α:Type} (l:List α):l.eraseIdx (l.length - 1) = l.dropLast:=by
 induction l with
 | nil=>rfl
 | cons a r ih =>
  cases r with
  | nil=>rfl
  | cons b r =>
   have e:(a :: b :: r).length - 1 = ((b :: r).length - 1) + 1:=by
    have h1:(a :: b :: r).length = r.length + 2:=rfl
    have h2:(b :: r).length = r.length + 1:=rfl
    omega
   rw [e,List.eraseIdx_cons_succ,ih]
   all_goals rfl
section
variable {X:Cx} {pins:List (Addr × Obj)} {σ:St} {H:Hp} {s:Shared} {l b:Addr} {xs ys zs:List V}
theorem Inv.lset {its its':List Value} {n:Nat} {f:Array Value→Array Value} {t':Nat} (I:Inv X pins σ H s) (hH:H l = some (.lst xs))
  (e:s.heap.get? l = some { cls:=.type "list",data:=.seq its.toArray n }) (hf:f its.toArray = its'.toArray) (hv:Vals ys its') (hz:ys.length≤sizeLine) :
  Inv X pins σ (upd H l (.lst ys)) { s with heap:=s.heap.update l (Obj.mapSeq f),toks:=t' }:=by
 have q:=PySem.IsL.update e f
 rw [hf] at q
 refine I.write (x:=l) (e:=l) (by rw [hH]; exact trivial) (.inl rfl) (fun b' u hb hu=>(Heap.get?_update_other s.heap (Obj.mapSeq f) (Ne.symm hb)).trans hu) ⟨_,q⟩ ?_
 exact ⟨hz,its',_,hv,q⟩
theorem Inv.lnew {its:List Value} {t':Nat} (I:Inv X pins σ H s) (hv:Vals ys its) (hz:ys.length≤sizeLine) :
  Inv X pins σ (upd H s.heap.objs.size (.lst ys)) { s with heap:=s.heap.push { cls:=.type "list",data:=.seq its.toArray },toks:=t' } :=
 I.laid (fun _ _ q=>Heap.get?_push_of_some _ q) (Nat.le_refl _) ⟨hz,its,0,hv,Heap.get?_push_size _ rfl⟩
theorem Inv.fresh (I:Inv X pins σ H s):H s.heap.objs.size = none:=I.hok.fresh (Nat.le_refl _)
theorem Inv.lstM (I:Inv X pins σ H s) (hH:H l = some (.lst xs)):xs.length≤sizeLine∧∃ (its:List Value) (n:Nat),Vals xs its∧xs.length = its.length∧s.heap.get? l = some { cls:=.type "list",data:=.seq its.toArray n }:=by
 obtain ⟨z,its,n,r,e⟩:=I.hok l _ hH
 exact ⟨z,its,n,r,r.length,e⟩
theorem notLongL {n:Nat} (h:n≤sizeLine):Builtin.List.listTooLong n = false:=by
 unfold Builtin.List.listTooLong
 exact decide_eq_false (by omega)
end
section
variable {X:Cx}
def rAppend:V→List V→Hp→VK→Prop:=fun x vs H Q=>∃ l xs y,x = .ref l∧vs = [y]∧H l = some (.lst xs)∧xs.length < sizeLine∧Q .non (upd H l (.lst (xs ++ [y])))
theorem mt_append:MtM X "list.append" rAppend:=by
 intro pins s σ H x vs v us Q I rx rv h
 obtain ⟨l,xs,y,rfl,rfl,hH,hz,q⟩:=h
 cases rx
 obtain ⟨u,rfl,ru⟩:=rv.one
 obtain ⟨z,its,n,r,hl,e⟩:=I.lstM hH
 refine call_meets F.slot_list_append ⟨_,e,rfl⟩ F.entry_list_append (F.args_list_append_2 _ _) (PySem.list_append l its.toArray n u (by rw [List.size_toArray]; omega)) ⟨e,?_⟩
 refine ⟨.non,_,I.lset (its':=its ++ [u]) hH e (by simp) (r.append (.cons ru .nil)) ?_,rfl,q⟩
 rw [List.length_append,List.length_singleton]
 omega
def rExtend:V→List V→Hp→VK→Prop:=fun x vs H Q=>∃ l b xs zs,x = .ref l∧vs = [.ref b]∧H l = some (.lst xs)∧H b = some (.lst zs)∧xs.length + zs.length≤sizeLine∧Q .non (upd H l (.lst (xs ++ zs)))
theorem mt_extend:MtM X "list.extend" rExtend:=by
 intro pins s σ H x vs v us Q I rx rv h
 obtain ⟨l,b,xs,zs,rfl,rfl,hH,hB,hz,q⟩:=h
 cases rx
 obtain ⟨u,rfl,ru⟩:=rv.one
 cases ru
 obtain ⟨z,its,n,r,hl,e⟩:=I.lstM hH
 obtain ⟨z2,its2,n2,r2,hl2,e2⟩:=I.lstM hB
 have hsz:its.toArray.size + its2.toArray.size≤sizeLine:=by rw [List.size_toArray,List.size_toArray]; omega
 have hlong:¬ (!its.toArray.isEmpty && Builtin.List.listTooLong (its.toArray.size + its2.toArray.size)) = true:=by
  rw [notLongL hsz,Bool.and_false]
  exact Bool.false_ne_true
 refine call_meets F.slot_list_extend ⟨_,e,rfl⟩ F.entry_list_extend (F.args_list_extend_2 _ _)
  (AutoSeq1.list_extend_list_list_0 l its.toArray n b its2.toArray n2 hlong (by rw [List.size_toArray]; omega) (by omega)) ⟨e,e2,?_⟩
 refine ⟨.non,_,I.lset (its':=its ++ its2) hH e (by simp) (r.append r2) ?_,rfl,q⟩
 rw [List.length_append]
 omega
def rPop:V→List V→Hp→VK→Prop:=fun x vs H Q=>∃ l xs y,x = .ref l∧vs = []∧H l = some (.lst xs)∧xs[xs.length - 1]? = some y∧Q y (upd H l (.lst xs.dropLast))
theorem mt_pop:MtM X "list.pop" rPop:=by
 intro pins s σ H x vs v us Q I rx rv h
 obtain ⟨l,xs,y,rfl,rfl,hH,hy,q⟩:=h
 cases rx
 have hus:=rv.zero
 subst hus
 obtain ⟨z,its,n,r,hl,e⟩:=I.lstM hH
 obtain ⟨u,hu,ru⟩:=r.get hy
 have hy':its.toArray[its.toArray.size - 1]? = some u:=by
  show its.toArray[its.length - 1]? = some u
  rw [← Array.getElem?_toList,← hl]
  exact hu
 refine call_meets F.slot_list_pop ⟨_,e,rfl⟩ F.entry_list_pop (F.args_list_pop_1 _) (MeetsSeq.list_pop_last l its.toArray n u hy' (by rw [List.size_toArray]; omega)) ⟨e,?_⟩
 refine ⟨y,_,I.lset (its':=its.dropLast) hH e ?_ r.dropLast ?_,ru,q⟩
 ·show its.toArray.eraseIdxIfInBounds (its.toArray.size - 1) = its.dropLast.toArray
  rw [List.size_toArray,List.eraseIdxIfInBounds_toArray,erase_last]
 ·rw [List.length_dropLast]
  omega
def rCat:R2:=fun x y H Q=>∃ l b xs zs,x = .ref l∧y = .ref b∧H l = some (.lst xs)∧H b = some (.lst zs)∧xs.length + zs.length≤sizeLine∧∀ p,H p = none→Q (.ref p) (upd H p (.lst (xs ++ zs)))
theorem op_cat:OpR X (binaryOp .Add) rCat:=by
 intro pins s σ H x y v u Q I rx ry h
 obtain ⟨l,b,xs,zs,rfl,rfl,hH,hB,hz,q⟩:=h
 cases rx
 cases ry
 obtain ⟨z,its,n,r,hl,e⟩:=I.lstM hH
 obtain ⟨z2,its2,n2,r2,hl2,e2⟩:=I.lstM hB
 refine PySem.P.add_list e e2 ?_ (by rw [List.size_toArray,List.size_toArray]; omega)
 have ea:its.toArray ++ its2.toArray = (its ++ its2).toArray:=by simp
 rw [ea]
 exact ⟨.ref _,_,I.lnew (t':=s.toks) (r.append r2) (by rw [List.length_append]; omega),rfl,q _ I.fresh⟩
end
section
variable {prog:Program} {w:World} {A:Around} {E:Value→Shared→Prop} {s:Shared}
set_option maxRecDepth 100000 in
end
section
variable {X:Cx}
end
end L2
namespace L2
open PySem PySem.Spec PyProof.Rows
theorem Vals.ints:∀ {ns:List Int} {us:List Value},Vals (ns.map V.int) us→IntsAre us ns
 | [],us,h=>by
  rw [List.map_nil] at h
  cases h
  exact IntsAre.nil
 | n :: ns,us,h=>by
  rw [List.map_cons] at h
  cases h with
  | cons r t =>
   obtain ⟨k,rfl⟩:=r
   exact IntsAre.cons n k (Vals.ints t)
theorem Vals.bls:∀ {bs:List Bool} {us:List Value},Vals (bs.map V.bl) us→us = bs.map Value.bool
 | [],us,h=>by
  rw [List.map_nil] at h
  cases h
  rfl
 | b :: bs,us,h=>by
  rw [List.map_cons] at h
  cases h with
  | cons r t =>
   cases r
   rw [Vals.bls t,List.map_cons]
theorem Vals.ref1 {a:Addr} {us:List Value} (r:Vals [V.ref a] us):us = [Value.ref a]:=by
 cases r with
 | cons r t =>
  cases t
  cases r
  rfl
section
variable {prog:Program} {w:World} {A:Around} {E:Value→Shared→Prop} {s:Shared} {l:Addr} {its:List Value} {ns:List Int} {Q:Value→Shared→Prop}
theorem sum_raw (hh:A.handled = none) (hl:s.heap.IsList l its.toArray) (hi:IntsAre its ns)
  (h:∀ h' tk t',(∀ b o,s.heap.get? b = some o→h'.get? b = some o)→Q (.int ns.sum t') { s with heap:=h',toks:=tk }):wpAny (model prog w) A (call (.builtin "sum") [.ref l]) Q E s:=by
 obtain ⟨xs,e⟩:=hi.allInts.items
 have hn:numsOf (intItems xs).toList = ns:=by rw [← e]; exact hi.numsOf
 rw [nums_intItems] at hn
 rw [e] at hl
 refine PySem.sum_intListG hh hl fun h' tk t' hk=>?_
 have:=h h' tk t' hk
 rw [preSum_eq,List.take_of_length_le (by simp),hn]; exact this
end
section
variable {X:Cx}
def rSum (K:PySem.W.Frag):List V→Hp→VK→Prop:=fun vs H Q=>∃ (a:Addr) (ns:List Int),vs = [V.ref a]∧SqL K H a (ns.map V.int)∧Q (.int ns.sum) H
theorem cr_sum (hc:X.calm = true):CallR X (.builtin "sum") (rSum X.K):=by
 intro pins s σ H vs us Q I r h
 obtain ⟨a,ns,rfl,hs,q⟩:=h
 obtain ⟨its,rv,hl,_⟩:=I.list hs
 rw [Vals.ref1 r]
 exact sum_raw (I.ok.hd hc) hl.isList rv.ints fun h' tk t' hk=>⟨.int _,H,I.kept hk,⟨_,rfl⟩,q⟩
end
section
variable {X:Cx}
end
section
variable {X:Cx}
end
theorem iter_any {prog:Program} {w:World} {A:Around} {E:Value→Shared→Prop} {s:Shared} {l:Addr} {items:Array Value} {Q:Value→Shared→Prop} (hl:s.heap.IsList l items)
  (h:∀ s₂:Shared,s₂ = { s with heap:=s.heap.push { cls:=.type "list_iterator",data:=.fields #[.ref l,.int 0 0] } } →
   (s₂.heap.IsListIter s.heap.objs.size l 0∧s₂.heap.IsList l items)→l≠s.heap.objs.size→Q (.ref s.heap.objs.size) s₂):wpAny (model prog w) A (pyIter (.ref l)) Q E s:=by
 have hlt:l < s.heap.objs.size:=by obtain ⟨_,e,_⟩:=hl; exact Heap.lt_size e
 exact wpAny_pyIter_list hl (h _ rfl ⟨⟨_,Heap.get?_push_size _ rfl,rfl,rfl⟩,hl.push _⟩ (Nat.ne_of_lt hlt))
theorem truth_bools {prog:Program} {w:World} {A:Around} {bs:List Bool} {its:List Value} (e:its = bs.map Value.bool) :
  TruthOf prog w A (fun i v=>its.toArray[i]? = some v) (fun i=>bs.getD i false):=fun i v s Q E hv hq=>by
 have hv':its[i]? = some v:=by simpa using hv
 rw [e,List.getElem?_map] at hv'
 obtain ⟨b,hb,rfl⟩:=Option.map_eq_some_iff.mp hv'
 have hg:bs.getD i false = b:=by rw [List.getD_eq_getElem?_getD,hb] <;> rfl
 have hq':Q (bs.getD i false) s:=hq
 rw [hg] at hq'
 exact wpAny_truthy_bool hq'
theorem any_range:∀ bs:List Bool,(List.range bs.length).any (fun i=>bs.getD i false) = bs.any id
 | []=>rfl
 | b :: bs=>by
  rw [List.length_cons,List.range_succ_eq_map,List.any_cons,List.any_map,List.any_cons,← any_range bs]
  all_goals rfl
theorem all_range:∀ bs:List Bool,(List.range bs.length).all (fun i=>bs.getD i false) = bs.all id
 | []=>rfl
 | b :: bs=>by
  rw [List.length_cons,List.range_succ_eq_map,List.all_cons,List.all_map,List.all_cons,← all_range bs]
  all_goals rfl
section
variable {X:Cx}
def rAny (K:PySem.W.Frag):List V→Hp→VK→Prop:=fun vs H Q=>∃ (a:Addr) (bs:List Bool),vs = [V.ref a]∧SqL K H a (bs.map V.bl)∧Q (.bl (bs.any id)) H
def rAll (K:PySem.W.Frag):List V→Hp→VK→Prop:=fun vs H Q=>∃ (a:Addr) (bs:List Bool),vs = [V.ref a]∧SqL K H a (bs.map V.bl)∧Q (.bl (bs.all id)) H
theorem cr_any (hc:X.calm = true):CallR X (.builtin "any") (rAny X.K):=by
 intro pins s σ H vs us Q I r h
 obtain ⟨a,bs,rfl,hs,q⟩:=h
 obtain ⟨its,rv,hl,_⟩:=I.list hs
 rw [Vals.ref1 r]
 have hb:=rv.bls
 refine call_any_walk (iter_any hl.isList fun s₂ e2 st hne=>?_)
 subst e2
 refine ⟨_,_,_,_,_,_,_,rfl,Walks.list (A:=X.A.in1) (I.ok.hd hc) _ a hne its.toArray,st,truth_bools hb,fun h' tk hk=>?_⟩
 refine ⟨.bl _,H,I.kept fun b o eo=>hk b o (fun hmem=>?_) (Heap.get?_push_of_some _ eo),?_,q⟩
 ·rcases List.mem_cons.mp hmem with e1 | hmem
  ·exact absurd (e1 ▸ Heap.lt_size eo) (Nat.lt_irrefl _)
  ·cases hmem
 ·show Value.bool _ = Value.bool _
  rw [← any_range,hb,List.size_toArray,List.length_map]
theorem cr_all (hc:X.calm = true):CallR X (.builtin "all") (rAll X.K):=by
 intro pins s σ H vs us Q I r h
 obtain ⟨a,bs,rfl,hs,q⟩:=h
 obtain ⟨its,rv,hl,_⟩:=I.list hs
 rw [Vals.ref1 r]
 have hb:=rv.bls
 refine call_all_walk (iter_any hl.isList fun s₂ e2 st hne=>?_)
 subst e2
 refine ⟨_,_,_,_,_,_,_,rfl,Walks.list (A:=X.A.in1) (I.ok.hd hc) _ a hne its.toArray,st,truth_bools hb,fun h' tk hk=>?_⟩
 refine ⟨.bl _,H,I.kept fun b o eo=>hk b o (fun hmem=>?_) (Heap.get?_push_of_some _ eo),?_,q⟩
 ·rcases List.mem_cons.mp hmem with e1 | hmem
  ·exact absurd (e1 ▸ Heap.lt_size eo) (Nat.lt_irrefl _)
  ·cases hmem
 ·show Value.bool _ = Value.bool _
  rw [← all_range,hb,List.size_toArray,List.length_map]
end
mutual
inductive Dp (K:PySem.W.Frag) (H:Hp):V→PyData→Prop
 | non:Dp K H .non .none
 | bl (b:Bool):Dp K H (.bl b) (.bool b)
 | int (i:Int):Dp K H (.int i) (.int i)
 | str (x:Str):Dp K H (.str x) (.str x)
 | lst {a:Addr} {xs:List V} {ds:List PyData}:SqL K H a xs→DpAll K H xs ds→Dp K H (.ref a) (.list ds)
 | tup {a:Addr} {xs:List V} {ds:List PyData}:SqT K H a xs→DpAll K H xs ds→Dp K H (.ref a) (.tuple ds)
inductive DpAll (K:PySem.W.Frag) (H:Hp):List V→List PyData→Prop
 | nil:DpAll K H [] []
 | cons {v:V} {vs:List V} {d:PyData} {ds:List PyData}:Dp K H v d→DpAll K H vs ds→DpAll K H (v :: vs) (d :: ds)
end
section
variable {X:Cx} {pins:List (Addr × Obj)} {σ:St} {H:Hp} {s:Shared}
mutual
theorem Dp.reads (I:Inv X pins σ H s):∀ (d:PyData) (v:V) (u:Value),Dp X.K H v d→RelV v u→∃ as,Reads s.heap u d as
 | .none,_,_,h,r=>by
  cases h
  cases r
  exact ⟨_,Reads.none⟩
 | .bool b,_,_,h,r=>by
  cases h
  cases r
  exact ⟨_,Reads.bool b⟩
 | .int i,_,_,h,r=>by
  cases h
  obtain ⟨t,rfl⟩:=r
  exact ⟨_,Reads.int i t⟩
 | .str x,_,_,h,r=>by
  cases h
  obtain ⟨t,rfl⟩:=r
  exact ⟨_,Reads.str x t⟩
 | .list ds,_,_,h,r=>by
  cases h with
  | lst hs ha =>
   cases r
   obtain ⟨its,rv,⟨o,n,ho,hc,_,hd⟩,_⟩:=I.list hs
   obtain ⟨as,hr⟩:=Dp.readsAll I ds _ its ha rv
   exact ⟨_,Reads.list ho hc hd hr⟩
 | .tuple ds,_,_,h,r=>by
  cases h with
  | tup hs ha =>
   cases r
   obtain ⟨its,rv,⟨o,ho,hc,n,hd⟩,_⟩:=I.tuple hs
   obtain ⟨as,hr⟩:=Dp.readsAll I ds _ its ha rv
   exact ⟨_,Reads.tuple ho hc hd hr⟩
 | .dict _,_,_,h,_=>by cases h
theorem Dp.readsAll (I:Inv X pins σ H s):∀ (ds:List PyData) (vs:List V) (us:List Value),DpAll X.K H vs ds→Vals vs us→∃ as,ReadsAll s.heap us ds as
 | [],_,_,h,r=>by
  cases h
  cases r
  exact ⟨_,ReadsAll.nil⟩
 | d :: ds,_,_,h,r=>by
  cases h with
  | cons h1 h2 =>
   cases r with
   | cons r1 r2 =>
    obtain ⟨as,q1⟩:=Dp.reads I d _ _ h1 r1
    obtain ⟨bs,q2⟩:=Dp.readsAll I ds _ _ h2 r2
    exact ⟨_,ReadsAll.cons q1 q2⟩
end
end
section
variable {X:Cx}
def rEqD (K:PySem.W.Frag):R2:=fun x y H Q=>∃ d e,Dp K H x d∧Dp K H y e∧SeqAt.shaped d = true∧SeqAt.shaped e = true∧Q (.bl (PyData.eqv d e)) H
def rNeD (K:PySem.W.Frag):R2:=fun x y H Q=>∃ d e,Dp K H x d∧Dp K H y e∧SeqAt.shaped d = true∧SeqAt.shaped e = true∧Q (.bl (!PyData.eqv d e)) H
theorem op_eqD (hu:X.A.units + 64 < cLine):OpR X (compareOp .Eq) (rEqD X.K):=by
 intro pins s σ H x y v u Q I rx ry h
 obtain ⟨d,e,hd,he,sd,se,q⟩:=h
 obtain ⟨as,r1⟩:=Dp.reads I d x v hd rx
 obtain ⟨bs,r2⟩:=Dp.reads I e y u he ry
 exact SeqAt.compareEq_shaped r1 r2 sd se hu ⟨.bl _,H,I,rfl,q⟩
theorem op_neD (hu:X.A.units + 64 < cLine):OpR X (compareOp .NotEq) (rNeD X.K):=by
 intro pins s σ H x y v u Q I rx ry h
 obtain ⟨d,e,hd,he,sd,se,q⟩:=h
 obtain ⟨as,r1⟩:=Dp.reads I d x v hd rx
 obtain ⟨bs,r2⟩:=Dp.reads I e y u he ry
 exact SeqAt.compareNe_shaped r1 r2 sd se hu ⟨.bl _,H,I,rfl,q⟩
end
end L2
namespace L2
open PySem PySem.Spec PyProof.Rows
abbrev CellAt (h:Heap) (c:Addr) (v:Option Value):Prop:=h.IsCell c v
def relS (scope sc:Scope):Scope :=
 { scope with names:=scope.names.map fun (n,k)=>if (k == .free && sc.kind == .function && sc.names.lookup n == some .cell) then (n,.cell) else (n,k) }
def cloFrom (cells:List (Str × Addr)):List (Str × NameKind)→List (Str × Addr)→List (Str × Addr)
 | [],acc=>acc
 | (n,k) :: r,acc=>if k == .free then cloFrom cells r ((n,(cells.lookup n).getD 0) :: acc) else cloFrom cells r acc
theorem closure_loop (env:Env) (f:Str × NameKind→List (Str × Addr)→Sem (ForInStep (List (Str × Addr))))
  (hf:∀ n k c,f (n,k) c = if k == .free then (do let a ← cellOf env n; pure (.yield ((n,a) :: c))) else pure (.yield c)) :
  ∀ (names:List (Str × NameKind)) (acc:List (Str × Addr)),(∀ y ∈ names,y.2 = .free→∃ c,env.cells.lookup y.1 = some c)→forIn names acc f = pure (cloFrom env.cells names acc)
 | [],acc,_=>by rw [List.forIn_nil]; rfl
 | (n,k) :: r,acc,h=>by
  rw [List.forIn_cons,hf]
  have ih:=fun acc=>closure_loop env f hf r acc fun y hy=>h y (List.mem_cons_of_mem _ hy)
  unfold cloFrom
  by_cases hk:(k == NameKind.free) = true
  ·rw [if_pos hk,if_pos hk]
   obtain ⟨c,hc⟩:=h (n,k) List.mem_cons_self (by simpa using hk)
   have e:cellOf env n = pure c:=by unfold cellOf; rw [hc]
   rw [e]
   have e2:(env.cells.lookup n).getD 0 = c:=by rw [hc]; rfl
   rw [e2]
   exact ih _
  ·rw [if_neg hk,if_neg hk]
   exact ih _
theorem closure_ok {scope:Scope} {env:Env} (h:∀ y ∈ scope.names,y.2 = .free→∃ c,env.cells.lookup y.1 = some c):closureFor scope env = pure (cloFrom env.cells scope.names []):=by
 simp only [closureFor]
 rw [closure_loop env _ (fun n k c=>rfl) scope.names [] h]
 rfl
theorem mem_lookup {α:Type}:∀ {l:List (Str × α)} {n:Str} {c:α},(n,c) ∈ l→∃ c',l.lookup n = some c'
 | (k,v) :: r,n,c,h=>by
  rw [List.lookup_cons]
  cases hb:n == k with
  | true=>exact ⟨_,rfl⟩
  | false =>
   rcases List.mem_cons.mp h with e | h
   ·cases e; simp at hb
   ·exact mem_lookup h
theorem cloFrom_mem {cells:List (Str × Addr)}:∀ {names:List (Str × NameKind)} {acc:List (Str × Addr)} {n:Str} {c:Addr},(n,c) ∈ cloFrom cells names acc→(n,c) ∈ acc∨((n,.free) ∈ names∧c = (cells.lookup n).getD 0)
 | [],_,_,_,h=>.inl h
 | (m,k) :: r,acc,n,c,h=>by
  unfold cloFrom at h
  split at h
  ·rename_i hk
   have hk:k = .free:=by simpa using hk
   rcases cloFrom_mem h with h | ⟨h1,h2⟩
   ·rcases List.mem_cons.mp h with e | h
    ·cases e; exact .inr ⟨hk ▸ List.mem_cons_self,rfl⟩
    ·exact .inl h
   ·exact .inr ⟨List.mem_cons_of_mem _ h1,h2⟩
  ·rcases cloFrom_mem h with h | ⟨h1,h2⟩
   ·exact .inl h
   ·exact .inr ⟨List.mem_cons_of_mem _ h1,h2⟩
theorem cloFrom_acc {cells:List (Str × Addr)}:∀ {names:List (Str × NameKind)} {acc:List (Str × Addr)} {p:Str × Addr},p ∈ acc→p ∈ cloFrom cells names acc
 | [],_,_,h=>h
 | (m,k) :: r,acc,p,h=>by
  unfold cloFrom
  split
  ·exact cloFrom_acc (List.mem_cons_of_mem _ h)
  ·exact cloFrom_acc h
theorem cloFrom_has {cells:List (Str × Addr)}:∀ {names:List (Str × NameKind)} {acc:List (Str × Addr)} {n:Str},(n,.free) ∈ names→(n,(cells.lookup n).getD 0) ∈ cloFrom cells names acc
 | (m,k) :: r,acc,n,h=>by
  unfold cloFrom
  rcases List.mem_cons.mp h with e | h
  ·cases e
   exact cloFrom_acc List.mem_cons_self
  ·split
   ·exact cloFrom_has h
   ·exact cloFrom_has h
theorem cells_mem:∀ {names:List (Str × NameKind)} {h:Heap} {acc:List (Str × Addr)} {x:Str} {c:Addr},(x,c) ∈ cellsFrom h.objs.size names acc →
  (x,c) ∈ acc∨((x,.cell) ∈ names∧h.objs.size≤c∧CellAt (pushCells h names) c none)
 | [],_,_,_,_,h=>.inl h
 | (n,k) :: r,h,acc,x,c,hm=>by
  unfold cellsFrom at hm
  unfold pushCells
  split at hm
  ·rename_i hk
   rw [if_pos hk]
   have hk:k = .cell:=by simpa using hk
   rw [← Heap.size_push h { cls:=.type "cell",data:=.cell none }] at hm
   rcases cells_mem hm with hm | ⟨h1,h2,h3⟩
   ·rcases List.mem_cons.mp hm with e | hm
    ·cases e
     exact .inr ⟨hk ▸ List.mem_cons_self,Nat.le_refl _,_,pushCells_keeps r _ _ _ (Heap.get?_push_size _ rfl),rfl⟩
    ·exact .inl hm
   ·rw [Heap.size_push] at h2
    exact .inr ⟨List.mem_cons_of_mem _ h1,Nat.le_of_succ_le h2,h3⟩
  ·rename_i hk
   rw [if_neg hk]
   rcases cells_mem hm with hm | ⟨h1,h2,h3⟩
   ·exact .inl hm
   ·exact .inr ⟨List.mem_cons_of_mem _ h1,h2,h3⟩
theorem cells_acc:∀ {names:List (Str × NameKind)} {n:Nat} {acc:List (Str × Addr)} {p:Str × Addr},p ∈ acc→p ∈ cellsFrom n names acc
 | [],_,_,_,h=>h
 | (m,k) :: r,n,acc,p,h=>by
  unfold cellsFrom
  split
  ·exact cells_acc (List.mem_cons_of_mem _ h)
  ·exact cells_acc h
theorem cells_has:∀ {names:List (Str × NameKind)} {n:Nat} {acc:List (Str × Addr)} {x:Str},(x,.cell) ∈ names→∃ c,(x,c) ∈ cellsFrom n names acc
 | (m,k) :: r,n,acc,x,h=>by
  unfold cellsFrom
  rcases List.mem_cons.mp h with e | h
  ·cases e
   exact ⟨n,cells_acc List.mem_cons_self⟩
  ·split
   ·exact cells_has h
   ·exact cells_has h
theorem cells_inj:∀ {names:List (Str × NameKind)} {h:Heap} {acc:List (Str × Addr)} {x y:Str} {c:Addr},(∀ p ∈ acc,p.2 < h.objs.size)→(∀ x y c,(x,c) ∈ acc→(y,c) ∈ acc→x = y) →
  (x,c) ∈ cellsFrom h.objs.size names acc→(y,c) ∈ cellsFrom h.objs.size names acc→x = y
 | [],_,_,_,_,_,_,hi,h1,h2=>hi _ _ _ h1 h2
 | (n,k) :: r,h,acc,x,y,c,hl,hi,h1,h2=>by
  unfold cellsFrom at h1 h2
  split at h1
  ·rename_i hk
   rw [if_pos hk] at h2
   rw [← Heap.size_push h { cls:=.type "cell",data:=.cell none }] at h1 h2
   refine cells_inj (h:=h.push _) (fun p hp=>?_) (fun x y c a b=>?_) h1 h2
   ·rw [Heap.size_push]
    rcases List.mem_cons.mp hp with rfl | hp
    ·exact Nat.lt_succ_self _
    ·exact Nat.lt_succ_of_lt (hl p hp)
   ·rcases List.mem_cons.mp a with e | a <;> rcases List.mem_cons.mp b with e' | b
    ·cases e; cases e'; rfl
    ·cases e; exact absurd (hl _ b) (Nat.lt_irrefl _)
    ·cases e'; exact absurd (hl _ a) (Nat.lt_irrefl _)
    ·exact hi _ _ _ a b
  ·rename_i hk
   rw [if_neg hk] at h2
   exact cells_inj hl hi h1 h2
theorem newEnv_comp {M:Model} {A:Around} {E:Value→Shared→Prop} {s:Shared} {scope:Scope} {globals:Addr} {closure:List (Str × Addr)} {qual:Str} {func:Option Addr} {code:Value} {around:Env} {builtins:Addr} {Q:Env→Shared→Prop}
  (h:Q (newEnv scope s.heap.objs.size globals (cellsFrom (s.heap.objs.size + 1) scope.names closure) qual func code (some around) builtins)
   { s with heap:=pushCells (s.heap.push { cls:=.type "dict",data:=.dict #[] }) scope.names }) :
  wpAny M A (newFunctionEnv scope globals closure [] qual func code (some around) builtins) Q E s:=by
 simp only [newFunctionEnv,Option.isSome_some,if_true]
 refine wpAny_bind (wpAny_alloc ?_)
 refine wpAny_bind (wpAny_layCells _ (fun n k c=>rfl) scope.names closure _ _ ?_)
 rw [show ({ s with heap:=s.heap.push { cls:=.type "dict",data:=.dict #[] } }:Shared).heap.objs.size = s.heap.objs.size + 1 from Heap.size_push ..]
 rw [List.forIn_nil]
 exact wpAny_bind (wpAny_pure (wpAny_pure h))
theorem lookup_relS {sc:Scope}:∀ {names:List (Str × NameKind)} {x:Str} {k:NameKind},
  (names.map fun (n,k)=>if (k == NameKind.free && sc.kind == .function && sc.names.lookup n == some .cell) then (n,NameKind.cell) else (n,k)).lookup x = some k →
  ∃ k',names.lookup x = some k'∧(k = k'∨(k' = .free∧k = .cell))
 | [],_,_,h=>by simp at h
 | (n,k₀) :: r,x,k,h=>by
  have ih:=@lookup_relS sc r x k
  have h':List.lookup x ((if (k₀ == NameKind.free && sc.kind == .function && sc.names.lookup n == some .cell) = true then (n,NameKind.cell) else (n,k₀)) :: (r.map _)) = some k:=h
  cases hx:x == n with
  | true =>
   simp only [List.lookup_cons,hx]
   by_cases hc:(k₀ == NameKind.free && sc.kind == .function && sc.names.lookup n == some .cell) = true
   ·rw [if_pos hc] at h'
    simp only [List.lookup_cons,hx] at h'
    cases h'
    simp only [Bool.and_eq_true,beq_iff_eq] at hc
    exact ⟨k₀,rfl,.inr ⟨hc.1.1,rfl⟩⟩
   ·rw [if_neg hc] at h'
    simp only [List.lookup_cons,hx] at h'
    cases h'
    exact ⟨_,rfl,.inl rfl⟩
  | false =>
   simp only [List.lookup_cons,hx]
   by_cases hc:(k₀ == NameKind.free && sc.kind == .function && sc.names.lookup n == some .cell) = true
   ·rw [if_pos hc] at h'
    simp only [List.lookup_cons,hx] at h'
    exact ih h'
   ·rw [if_neg hc] at h'
    simp only [List.lookup_cons,hx] at h'
    exact ih h'
structure BlkOk (N:List Str) (sc scope:Scope) (own:List (Str × Nat)):Prop where
 kind:scope.kind = .function
 uniq:∀ y ∈ scope.names,scope.names.lookup y.1 = some y.2
 ix:∀ p ∈ own,N[p.2]? = some p.1
 free:∀ y ∈ scope.names,y.2 = .free→sc.names.lookup y.1 = some .cell∨sc.names.lookup y.1 = some .free
 own:∀ y ∈ scope.names,y.2 = .local∨y.2 = .cell→y.1 ∈ own.map (·.1)∨y.1 ∉ N
def wipe (σ:St):List Nat→St
 | []=>σ
 | v :: vs=>(wipe σ vs).set v none
theorem wipe_length (σ:St):∀ vs:List Nat,(wipe σ vs).length = σ.length
 | []=>rfl
 | v :: vs=>by unfold wipe; rw [List.length_set,wipe_length σ vs]
theorem wipe_some {σ:St} {i:Nat} {x:V}:∀ {vs:List Nat},(wipe σ vs)[i]? = some (some x)→σ[i]? = some (some x)∧i ∉ vs
 | [],h=>⟨h,by simp⟩
 | v :: vs,h=>by
  unfold wipe at h
  by_cases hi:v = i
  ·subst hi
   by_cases hv:v < (wipe σ vs).length
   ·rw [List.getElem?_set_self hv] at h; cases h
   ·rw [List.getElem?_eq_none (by simpa using hv)] at h; cases h
  ·rw [List.getElem?_set_ne hi] at h
   obtain ⟨h1,h2⟩:=wipe_some h
   exact ⟨h1,by simp only [List.mem_cons,not_or]; exact ⟨fun e=>hi e.symm,h2⟩⟩
abbrev Cx.blk (X:Cx) (s:Shared) (H:Hp) (scope:Scope) (cenv:Env) (fp:List Addr):Cx:={ X with s_0:=s,H_0:=H,env:=cenv,outer:=X.stack,ex:=fp,fn:=fun x=>scope.names.lookup x == some .cell,pn:=[],xe:=fun _ _=>False }
section
variable {X:Cx} {pins:List (Addr × Obj)} {σ:St} {H:Hp} {s:Shared}
theorem block_start {scope:Scope} {own:List (Str × Nat)} {fp:List Addr} (I:Inv X pins σ H s) (ok:BlkOk X.N X.env.scope scope own) (hN:X.N.Nodup) (hfp:∀ b ∈ fp,FpOk X pins H b∧b < s.heap.objs.size) :
  Inv (X.blk s H scope (compEnvC scope (cellsFrom (s.heap.objs.size + 1) scope.names (cloFrom X.env.cells scope.names [])) s.heap.objs.size X.env) fp) [] (wipe σ (own.map (·.2))) H { s with heap:=pushCells (s.heap.push { cls:=.type "dict",data:=.dict #[] }) scope.names }:=by
 have hfree:∀ y ∈ scope.names,y.2 = .free→∃ c,X.env.cells.lookup y.1 = some c:=fun y hy e=>by
  rcases ok.free y hy e with k | k
  ·exact I.ok.has _ (.inl k)
  ·exact I.ok.has _ (.inr k)
 generalize hcenv:compEnvC scope (cellsFrom (s.heap.objs.size + 1) scope.names (cloFrom X.env.cells scope.names [])) s.heap.objs.size X.env = cenv
 have kp:∀ b o,s.heap.get? b = some o→(pushCells (s.heap.push { cls:=.type "dict",data:=.dict #[] }) scope.names).get? b = some o:=fun b o e=>pushCells_keeps _ _ _ _ (Heap.get?_push_of_some _ e)
 have hL:cenv.locals = s.heap.objs.size:=by rw [← hcenv]; rfl
 have hcl:cenv.cells = cellsFrom (s.heap.objs.size + 1) scope.names (cloFrom X.env.cells scope.names []):=by rw [← hcenv]; rfl
 have hsc:cenv.scope = relS scope X.env.scope:=by rw [← hcenv]; rfl
 rw [← Heap.size_push s.heap { cls:=.type "dict",data:=.dict #[] }] at hcl
 have cm:∀ {y c},(y,c) ∈ cloFrom X.env.cells scope.names []→X.env.cells.lookup y = some c∧c < s.heap.objs.size:=fun {y c} hm=>by
  rcases cloFrom_mem hm with hm | ⟨h1,rfl⟩
  ·cases hm
  ·obtain ⟨c,hc⟩:=hfree _ h1 rfl
   rw [hc]
   obtain ⟨w,z⟩:=I.cell _ _ hc
   exact ⟨rfl,z.lt⟩
 have mem:∀ {y c},cenv.cells.lookup y = some c→(X.env.cells.lookup y = some c∧c < s.heap.objs.size)∨(s.heap.objs.size + 1≤c∧CellAt (pushCells (s.heap.push { cls:=.type "dict",data:=.dict #[] }) scope.names) c none):=fun {y c} e=>by
  rw [hcl] at e
  rcases cells_mem (PySem.mem_of_lookup e) with hm | ⟨_,h2,h3⟩
  ·exact .inl (cm hm)
  ·rw [Heap.size_push] at h2; exact .inr ⟨h2,h3⟩
 have look:∀ {y},scope.names.lookup y = some .free→∃ c,cenv.cells.lookup y = some c∧X.env.cells.lookup y = some c:=fun {y} hl=>by
  have hy:(y,NameKind.free) ∈ scope.names:=PySem.mem_of_lookup hl
  obtain ⟨c',e'⟩:=mem_lookup (cells_acc (names:=scope.names) (n:=(s.heap.push { cls:=.type "dict",data:=.dict #[] }).objs.size) (cloFrom_has (cells:=X.env.cells) (acc:=[]) hy))
  rw [← hcl] at e'
  refine ⟨c',e',?_⟩
  rw [hcl] at e'
  rcases cells_mem (PySem.mem_of_lookup e') with hm | ⟨h1,_,_⟩
  ·exact (cm hm).1
  ·have:=ok.uniq _ h1
   rw [hl] at this; cases this
 have okB:(X.blk s H scope cenv fp).Ok:=by
  refine ⟨I.ok.mod,by show cenv.scope.kind = _; rw [hsc]; exact ok.kind,by show cenv.globals = _; rw [← hcenv]; exact I.ok.glob,by show cenv.builtins = _; rw [← hcenv]; exact I.ok.blt,by show s.heap.objs.size≤cenv.locals; rw [hL]; exact Nat.le_refl _,
   fun y z c e1 e2=>?_,fun y hy=>?_,fun y c z e=>?_,I.ok.hd,I.ok.frames,.inl rfl,fun b hb=>⟨?_,fun y c e z=>?_⟩,I.bs,Nat.le_trans I.ok.bsz I.sz,fun b o e hb=>?_,fun b hb z=>?_,I.stack,I.stkFree⟩
  ·have e1:cenv.cells.lookup y = some c:=e1
   have e2:cenv.cells.lookup z = some c:=e2
   rw [hcl] at e1 e2
   refine cells_inj (fun p hp=>?_) (fun y z c a b=>I.ok.inj y z c (cm a).1 (cm b).1) (PySem.mem_of_lookup e1) (PySem.mem_of_lookup e2)
   rw [Heap.size_push]
   exact Nat.lt_succ_of_lt (cm (y:=p.1) (c:=p.2) hp).2
  ·show ∃ c,cenv.cells.lookup y = some c
   have key:∀ k,cenv.kindOf y = some k→(k = .cell∨k = .free)→∃ c,cenv.cells.lookup y = some c:=fun k hk hk'=>by
    unfold Env.kindOf at hk
    rw [hsc] at hk
    obtain ⟨k',e,r⟩:=lookup_relS hk
    have:k' = .cell∨k' = .free:=by
     rcases r with rfl | ⟨rfl,_⟩
     ·exact hk'
     ·exact .inr rfl
    rcases this with rfl | rfl
    ·obtain ⟨c,hm⟩:=cells_has (n:=(s.heap.push { cls:=.type "dict",data:=.dict #[] }).objs.size) (acc:=cloFrom X.env.cells scope.names []) (PySem.mem_of_lookup e)
     obtain ⟨c',e'⟩:=mem_lookup hm
     exact ⟨c',by rw [hcl]; exact e'⟩
    ·obtain ⟨c,h1,_⟩:=look e
     exact ⟨c,h1⟩
   rcases hy with hy | hy
   ·exact key _ hy (.inl rfl)
   ·exact key _ hy (.inr rfl)
  ·have z:(scope.names.lookup y == some NameKind.cell) = true:=z
   have z:scope.names.lookup y = some .cell:=by simpa using z
   have e:cenv.cells.lookup y = some c:=e
   rw [hcl] at e
   rcases cells_mem (PySem.mem_of_lookup e) with hm | ⟨_,h2,_⟩
   ·rcases cloFrom_mem hm with hm | ⟨h1,_⟩
    ·cases hm
    ·have q:=ok.uniq _ h1
     rw [z] at q; cases q
   ·rw [Heap.size_push] at h2
    exact Nat.le_of_succ_le h2
  ·show b≠cenv.locals
   rw [hL]; exact Nat.ne_of_lt (hfp b hb).2
  ·have e:cenv.cells.lookup y = some c:=e
   rcases mem e with ⟨h1,_⟩ | ⟨h1,_⟩
   ·exact (hfp b hb).1.2.2.2.2.1 y c h1 z
   ·have h2:s.heap.objs.size + 1≤b:=by rw [← z]; exact h1
    exact absurd (Nat.lt_of_lt_of_le (hfp b hb).2 (Nat.le_of_succ_le h2)) (Nat.lt_irrefl _)
  ·rcases (hfp b hb).1.2.2.2.1 with z | z
   ·exact I.ok.noex b o e z
   ·exact absurd (Nat.lt_of_lt_of_le (Heap.lt_size e) (Nat.le_trans I.ok.bsz z)) (Nat.lt_irrefl _)
  ·rcases List.mem_cons.mp (I.stkSub b z) with z | z
   ·exact (hfp b hb).1.2.1 z
   ·exact (hfp b hb).1.2.2.1 z
 refine ⟨okB,rfl,I.bare,Un.kept kp,⟨fun _=>none,?_,fun i y av e1 e2 e3=>?_⟩,fun y c e=>?_,?_,fun y c e=>?_,fun p hp=>?_,I.hok.kept kp,by rw [wipe_length]; exact I.len⟩
 ·show Heap.Ns _ cenv.locals _
  rw [hL]
  exact Heap.Ns.keeps (Heap.Ns.new ..) fun b o e=>pushCells_keeps _ _ _ _ e
 ·obtain ⟨e2,hne⟩:=wipe_some e2
  have hfr:scope.names.lookup y = some .free∧(cenv.kindOf y = some .cell∨cenv.kindOf y = some .free):=by
   have key:∀ k,cenv.scope.names.lookup y = some k→k = .local∨k = .cell∨k = .free→scope.names.lookup y = some .free∧(cenv.kindOf y = some .cell∨cenv.kindOf y = some .free):=fun k hk hk'=>by
    have hk0:=hk
    rw [hsc] at hk
    obtain ⟨k',e,r⟩:=lookup_relS hk
    have no:¬ (k' = .local∨k' = .cell):=fun hh=>by
     rcases ok.own _ (PySem.mem_of_lookup e) hh with e' | e'
     ·obtain ⟨p,hp,hpy⟩:=List.mem_map.mp e'
      have e3:=ok.ix p hp
      have:p.1 = y:=hpy
      rw [this] at e3
      exact hne (List.mem_map.mpr ⟨p,hp,nodup_ix hN e3 e1⟩)
     ·exact e' (List.mem_of_getElem? e1)
    rcases r with rfl | ⟨rfl,rfl⟩
    ·rcases hk' with rfl | rfl | rfl
     ·exact absurd (.inl rfl) no
     ·exact absurd (.inr rfl) no
     ·exact ⟨e,.inr hk0⟩
    ·exact ⟨e,.inl hk0⟩
   have e3:Vis cenv.scope y:=e3
   rcases e3 with e3 | e3 | e3
   ·exact key _ e3 (.inl rfl)
   ·exact key _ e3 (.inr (.inl rfl))
   ·exact key _ e3 (.inr (.inr rfl))
  obtain ⟨m,hn,hl⟩:=I.loc
  have hvis:Vis X.env.scope y:=(ok.free _ (PySem.mem_of_lookup hfr.1) rfl).elim (fun k=>.inr (.inl k)) (fun k=>.inr (.inr k))
  obtain ⟨w,r,q⟩:=hl i y av e1 e2 hvis
  refine ⟨w,r,.inr ⟨hfr.2,?_⟩⟩
  obtain ⟨c,h1,h2⟩:=look hfr.1
  rcases q with ⟨k,_⟩ | ⟨_,c',e',z⟩
  ·have k:X.env.scope.names.lookup y = some .local:=k
   rcases ok.free _ (PySem.mem_of_lookup hfr.1) rfl with k' | k' <;> rw [show X.env.scope.names.lookup y = _ from k'] at k <;> cases k
  ·rw [h2] at e'; cases e'
   exact ⟨c,h1,z.keeps kp⟩
 ·have e:cenv.cells.lookup y = some c:=e
  rcases mem e with ⟨h1,_⟩ | ⟨_,z⟩
  ·obtain ⟨w,z⟩:=I.cell y c h1
   exact ⟨w,z.keeps kp⟩
  ·exact ⟨_,z⟩
 ·show H cenv.locals = none
  rw [hL]; exact I.hok.fresh (Nat.le_refl _)
 ·have e:cenv.cells.lookup y = some c:=e
  rcases mem e with ⟨h1,_⟩ | ⟨h1,_⟩
  ·exact I.freeC y c h1
  ·exact I.hok.fresh (Nat.le_of_succ_le h1)
 ·exact absurd (show p ∈ ([]:List (Addr × Obj)) ++ [] from hp) (by simp)
theorem app_ok {E:Value→Shared→Prop} {D:Addr} {xs:List V} {y:V} {v:Value} {Q:Value→Shared→Prop} (I:Inv X pins σ H s) (hD:H D = some (.lst xs)) (hz:xs.length < sizeLine) (r:RelV y v)
  (h:∀ s',Inv X pins σ (upd H D (.lst (xs ++ [y]))) s'→Q .none s'):wpAny (model X.prog X.w) X.A (call (.builtin "list.append") [.ref D,v]) Q E s:=by
 obtain ⟨hz',its,n,ri,e⟩:=I.hok D _ hD
 have hl:=ri.length
 refine append_at (hsz:=by rw [List.size_toArray]; omega) e fun h' sb ho'=>?_
 refine h { s with heap:=h' } (I.write (t':=s.toks) (by rw [hD]; trivial) (.inl rfl) (fun b u hb q=>(sb.2 b hb).trans q) ⟨_,ho'⟩ ⟨by rw [List.length_append]; exact hz,its ++ [v],n + 1,ri.append (.cons r .nil),?_⟩)
 rw [ho']
 simp
def PTs (X:Cx) (ifs:List Expr) (t:TT):Prop :=
 ∀ (pins:List (Addr × Obj)) (s:Shared) (σ:St) (H:Hp) (Q:Bool→Hp→Prop),Inv X pins σ H s→t σ H Q →
  wpAny (model X.prog X.w) X.A (forIn ifs true fun c r=>if r = true then do let ok ← isTrue c X.env (eval c X.env); pure (ForInStep.yield ok) else pure (ForInStep.yield r)) (TP X pins σ Q) X.xe s
def tYes:TT:=fun _ H Q=>Q true H
theorem pts_nil:PTs X [] tYes:=fun _ _ _ H _ I h=>wpAny_tests_nil ⟨H,I,h⟩
theorem pts_one {c:Expr} {t:TT} (h:PT X c t):PTs X [c] t:=fun pins s σ H Q I hw=>wpAny_tests_one (h pins s σ H Q I hw)
end
theorem thnF {α:Type} {t:Sem α} {Q Q':α→Shared→Prop} {M:Model} {A:Around} {E:Value→Shared→Prop} {s:Shared} (h:wpAny M A t Q (fun _ _=>False) s) (hQ:∀ a s,Q a s→Q' a s):wpAny M A t Q' E s:=wpAny_mono h hQ fun _ _ z=>False.elim z
theorem compLoop_any {prog:Program} {w:World} {A:Around} {R:Result→Shared→Prop} {s:Shared} {elt target iter:Expr} {ifs:List Expr} {scope:Scope} {pos:Pos} {it acc:Value} {env:Env} (I:Nat→Shared→Prop)
  (turn:∀ n s,I n s→wpAny (model prog w) A (pyNext it) (fun r s₁=>match r with
   | none=>R (.ok .next) s₁
   | some v=>wpAny (model prog w) A (letOwnedTupleGo target it v) (fun _ s₁'=>wpAny (model prog w) A (assign target env v) (fun _ s₂ =>
     wpAny (model prog w) A (forIn ifs true fun c r=>if r = true then do let ok ← isTrue c env (eval c env); pure (ForInStep.yield ok) else pure (ForInStep.yield r)) (fun ok s₃ =>
      if ok = true then wpAny (model prog w) A (eval elt env) (fun x s₄ =>
       wpAny (model prog w) A (call (.builtin "list.append") [acc,x]) (fun _ s₅=>∃ m,m < n∧I m s₅) (notedBy (model prog w) A env fun e s'=>R (.error e) s') s₄) (notedBy (model prog w) A env fun e s'=>R (.error e) s') s₃
      else ∃ m,m < n∧I m s₃) (notedBy (model prog w) A env fun e s'=>R (.error e) s') s₂) (notedBy (model prog w) A env fun e s'=>R (.error e) s') s₁') (notedBy (model prog w) A env fun e s'=>R (.error e) s') s₁) (notedBy (model prog w) A env fun e s'=>R (.error e) s') s)
  (n:Nat) (h:I n s) :
  codeAny (model prog w) A (.compLoop (.ListComp elt [⟨target,iter,ifs,0⟩] scope pos) 0 it acc env) R s:=by
 refine codeAny_loop rfl I (fun n s hI=>?_) n h
 show wpAny _ A ((compTurn (.ListComp elt [⟨target,iter,ifs,0⟩] scope pos) 0 it acc env).onRaise (fun x=>do noteFrame x env; theTreesLotGoes x)) _ _ s
 refine wpAny_noted ?_
 rw [compTurn_list]
 refine wpAny_bind (wpAny_standAt (wpAny_bind (wpAny_mono (turn n s hI) (fun r s₁ h₁=>?_) fun _ _ h'=>h')))
 cases r with
 | none=>exact wpAny_pure h₁
 | some v =>
  refine wpAny_bind (wpAny_mono h₁ (fun _ s₁' h₁'=>?_) fun _ _ h'=>h')
  refine wpAny_bind (wpAny_mono h₁' (fun _ s₂ h₂=>wpAny_bind (wpAny_mono h₂ (fun ok s₃ h₃=>?_) fun _ _ h'=>h')) fun _ _ h'=>h')
  cases ok with
  | false=>exact wpAny_pure ⟨rfl,h₃⟩
  | true =>
   exact wpAny_bind (wpAny_bind (wpAny_mono h₃ (fun x s₄ h₄=>wpAny_bind (wpAny_mono h₄ (fun _ s₅ h₅=>wpAny_pure (wpAny_pure ⟨rfl,h₅⟩)) fun _ _ h'=>h')) fun _ _ h'=>h'))
section
variable {X:Cx}
def tLc (wi:TI) (g:TG) (tt:TT) (te:TE) (vs:List Nat):TE:=fun σ H Q=>wi σ H fun J H1=>∀ D,H1 D = none→∃ W:Nat→Nat→Hp→Prop,(∃ m,W 0 m (upd H1 D (.lst [])))∧∀ i m H,W i m H →
 (J.stop i H∧Q (.ref D) H)∨(J.go i H∧∃ Nx:Hp→Prop,(∀ H',Nx H'→∃ m',m' < m∧W (i + 1) m' H')∧∀ x H',J.yld i H x H'→g x (wipe σ vs) H' fun σ2 H2=>wipe σ2 vs = wipe σ vs∧tt σ2 H2 fun b H3 =>
  if b = true then te σ2 H3 fun y H4=>∃ acc,H4 D = some (.lst acc)∧acc.length < sizeLine∧Nx (upd H4 D (.lst (acc ++ [y]))) else Nx H3)
theorem lc_core {pins:List (Addr × Obj)} {s:Shared} {σ:St} {H:Hp} {Q:VK} {elt tg iter:Expr} {ifs:List Expr} {scope:Scope} {own:List (Str × Nat)} {pos pos':Pos} {wi:TI} {g:TG} {tt:TT} {te:TE} {use:Option (Value→Sem Unit)} {Qf:Value→Shared→Prop}
  (hc:X.calm = true) (hN:X.N.Nodup) (I:Inv X pins σ H s) (hi:PI X tg iter wi) (ok:BlkOk X.N X.env.scope scope own)
  (hg:∀ (s:Shared) (H:Hp) (C:Addr) (cl:List (Str × Addr)) (fp:List Addr),PG (X.blk s H scope (compEnvC scope cl C X.env) fp) tg g) (ht:∀ (s:Shared) (H:Hp) (C:Addr) (cl:List (Str × Addr)) (fp:List Addr),PTs (X.blk s H scope (compEnvC scope cl C X.env) fp) ifs tt)
  (he:∀ (s:Shared) (H:Hp) (C:Addr) (cl:List (Str × Addr)) (fp:List Addr),PE (X.blk s H scope (compEnvC scope cl C X.env) fp) elt te) (hs:∀ x,foldedSetIterable iter X.env x = pure x)
  (h:tLc wi g tt te (own.map (·.2)) σ H Q)
  (hRR:∀ D C s' m H',Inv X pins σ H' s'→Q (.ref D) H'→s'.heap.Ns C m→FpOk X pins H' C→compPost (model X.prog X.w) X.A X.xe use Qf (.ref D) C (.ok .next) s') :
  wpAny (model X.prog X.w) X.A (comprehension (.ListComp elt [⟨tg,iter,ifs,0⟩] scope pos) scope X.env pos' (newList []) false (eval iter X.env) use) Qf X.xe s:=by
 have hfree:∀ y ∈ scope.names,y.2 = .free→∃ c,X.env.cells.lookup y.1 = some c:=fun y hy e=>by
  rcases ok.free y hy e with k | k
  ·exact I.ok.has _ (.inl k)
  ·exact I.ok.has _ (.inr k)
 refine wpAny_comprehension_free (use:=use) rfl hs (closure_ok hfree) ok.kind (fun y hy e=>by rw [ok.uniq y hy,e])
  (thn (hi pins s σ H _ I h) fun xv s1 hx=>thn hx fun itv s2 h2=>?_)
 obtain ⟨it,fp,tn,J,H2,e,I2,T,st2,f2,q⟩:=h2
 subst e
 refine wpAny_newObj_type (newEnv_comp ?_) (by show 0≤sizeLine; decide)
 generalize hD:s2.heap.objs.size = D
 have hDn:H2 D = none:=I2.hok.fresh (Nat.le_of_eq hD)
 obtain ⟨W,⟨m0,w0⟩,turn⟩:=q D hDn
 generalize hs3:({ s2 with heap:=s2.heap.push { cls:=.type "list",data:=.seq ([]:List Value).toArray } }:Shared) = s3
 have I3:Inv X pins σ (upd H2 D (.lst [])) s3:=by
  rw [← hs3]
  refine I2.laid (t':=s2.toks) (fun b o e=>Heap.get?_push_of_some _ e) (Nat.le_of_eq hD) ⟨Nat.zero_le _,[],0,.nil,?_⟩
  rw [← hD]
  exact Heap.get?_push_size _ rfl
 have h3:s3.heap = s2.heap.push { cls:=.type "list",data:=.seq ([]:List Value).toArray }:=by rw [← hs3]
 have sz:∀ b ∈ fp,b < s2.heap.objs.size:=fun b hb=>by
  obtain ⟨o,e,_⟩:=T.obj _ _ st2 b hb
  exact Heap.lt_size e
 have f3:∀ b ∈ fp,FpOk X pins (upd H2 D (.lst [])) b∧b < s3.heap.objs.size:=fun b hb=>by
  have hlt:=sz b hb
  refine ⟨⟨?_,(f2 b hb).2⟩,by rw [h3,Heap.size_push]; exact Nat.lt_succ_of_lt hlt⟩
  rw [upd_ne (by rw [← hD]; exact Nat.ne_of_lt hlt)]
  exact (f2 b hb).1
 have st3:tn 0 s3.heap:=T.keep _ _ _ st2 fun b _ o e=>by rw [h3]; exact Heap.get?_push_of_some _ e
 have I4:=block_start I3 ok hN f3
 have pg:=hg s3 (upd H2 D (.lst [])) s3.heap.objs.size (cellsFrom (s3.heap.objs.size + 1) scope.names (cloFrom X.env.cells scope.names [])) fp
 have pt:=ht s3 (upd H2 D (.lst [])) s3.heap.objs.size (cellsFrom (s3.heap.objs.size + 1) scope.names (cloFrom X.env.cells scope.names [])) fp
 have pe:=he s3 (upd H2 D (.lst [])) s3.heap.objs.size (cellsFrom (s3.heap.objs.size + 1) scope.names (cloFrom X.env.cells scope.names [])) fp
 show codeAny _ _ (.compStart (.ListComp elt [⟨tg,iter,ifs,0⟩] scope pos) 0 (.ref it) (.ref D) (compEnvC scope (cellsFrom (s3.heap.objs.size + 1) scope.names (cloFrom X.env.cells scope.names [])) s3.heap.objs.size X.env)) (compPost (model X.prog X.w) X.A X.xe use Qf (.ref D) s3.heap.objs.size) { s3 with heap:=pushCells (s3.heap.push { cls:=.type "dict",data:=.dict #[] }) scope.names }
 have nfp:∀ b ∈ fp,(upd H2 D (.lst [])) b = none:=fun b hb=>(f3 b hb).1.1
 generalize hce:compEnvC scope (cellsFrom (s3.heap.objs.size + 1) scope.names (cloFrom X.env.cells scope.names [])) s3.heap.objs.size X.env = ce at I4 pg pt pe ⊢
 have cL:ce.locals = s3.heap.objs.size:=by subst hce; rfl
 generalize hH3:upd H2 D (.lst []) = H3 at I3 I4 pg pt pe w0 nfp f3
 generalize hs4:({ s3 with heap:=pushCells (s3.heap.push { cls:=.type "dict",data:=.dict #[] }) scope.names }:Shared) = s4 at I4 ⊢
 have st4:tn 0 s4.heap:=T.keep _ _ _ st3 fun b _ o e=>by rw [← hs4]; exact pushCells_keeps _ _ _ _ (Heap.get?_push_of_some _ e)
 have stat:∀ {σ':St} {H':Hp} {s':Shared},Inv (X.blk s3 H3 scope ce fp) [] σ' H' s'→(∀ b ∈ fp,H' b = none)→∀ b ∈ fp,FpOk (X.blk s3 H3 scope ce fp) [] H' b:=fun {σ' H' s'} I' hn b hb =>
  ⟨hn b hb,(I'.ok.exf b hb).1,I'.ok.exfs b hb,.inl hb,fun x c e=>(I'.ok.exf b hb).2 x c e,fun p hp=>absurd (show p ∈ ([]:List (Addr × Obj)) ++ [] from hp) (by simp)⟩
 have loop:codeAny (model X.prog X.w) X.A (.compLoop (.ListComp elt [⟨tg,iter,ifs,0⟩] scope pos) 0 (.ref it) (.ref D) ce) (compPost (model X.prog X.w) X.A X.xe use Qf (.ref D) s3.heap.objs.size) s4:=by
  refine compLoop_any (fun n s'=>∃ i H',Inv (X.blk s3 H3 scope ce fp) [] (wipe σ (own.map (·.2))) H' s'∧tn i s'.heap∧(∀ b ∈ fp,H' b = none)∧W i n H') ?_ m0 ⟨0,H3,I4,st4,nfp,w0⟩
  rintro n s5 ⟨i,H5,I5,st5,n5,w5⟩
  rcases turn i n H5 w5 with ⟨stop,qq⟩ | ⟨go,Nx,hNx,step⟩
  ·have td:=T.done (X.blk s3 H3 scope ce fp) rfl rfl rfl hc i [] s5 _ H5 (fun _ _=>False) I5 (stat I5 n5) st5 stop
   refine thnF td fun r s6 ⟨hr,I6⟩=>?_
   subst hr
   have I7:Inv X pins σ H5 s6:=I3.call' (ch:=fp) I6.os I6.base I6.hok I6.bare fun b hb=>⟨(f3 b hb).1.2.2.2.1,(f3 b hb).1.2.1,(f3 b hb).1.2.2.2.2.1,(f3 b hb).1.2.2.2.2.2⟩
   have nC:H5 s3.heap.objs.size = none:=by
    have z:H5 ce.locals = none:=I6.free
    rw [cL] at z
    exact z
   obtain ⟨m,hn,_⟩:=I6.loc
   have hn:s6.heap.Ns ce.locals m:=hn
   rw [cL] at hn
   exact hRR D s3.heap.objs.size s6 m H5 I7 qq hn (I3.fpOk (Nat.le_refl _) nC)
  ·have ti:=T.item (X.blk s3 H3 scope ce fp) rfl rfl rfl hc i [] s5 _ H5 (fun _ _=>False) I5 (stat I5 n5) st5 go
   refine thnF ti fun r s6 ⟨u,hr,h6⟩=>?_
   subst hr
   refine thnF h6 fun _ s7 ⟨x,H7,I7,r7,y7,st7,n7⟩=>?_
   have I7':=I7.pinned (stat I7 n7) (T.obj _ _ st7)
   refine thnF (pg _ s7 _ H7 x u _ I7' r7 (step x H7 y7)) fun _ s8 ⟨σ8,H8,I8,hw8,q8⟩=>?_
   refine thnF (pt _ s8 σ8 H8 _ I8 q8) fun b s9 ⟨H9,I9,q9⟩=>?_
   have fin:∀ {s':Shared} {H':Hp},Inv (X.blk s3 H3 scope ce fp) ([] ++ pinsAt fp s7.heap) σ8 H' s'→Nx H'→∃ m,m < n∧∃ i H',Inv (X.blk s3 H3 scope ce fp) [] (wipe σ (own.map (·.2))) H' s'∧tn i s'.heap∧(∀ b ∈ fp,H' b = none)∧W i m H':=fun {s' H'} I' nx=>by
    obtain ⟨m',hm,w'⟩:=hNx H' nx
    have pin':∀ b ∈ fp,∀ o,s7.heap.get? b = some o→s'.heap.get? b = some o∧H' b = none:=fun b hb o e =>
     let z:=I'.pin (b,o) (List.mem_append_right _ (List.mem_append_right _ (mem_pinsAt hb e)))
     ⟨z.1,z.2.1⟩
    have hl:(wipe σ (own.map (·.2))).length = σ8.length:=by rw [← hw8,wipe_length]
    refine ⟨m',hm,i + 1,H',(I'.unpinned (pins:=[])).weak hl (fun j v e=>?_),T.keep _ _ _ st7 fun b hb o e=>(pin' b hb o e).1,fun b hb=>?_,w'⟩
    ·rw [← hw8] at e
     exact (wipe_some e).1
    ·obtain ⟨o,e,_⟩:=T.obj _ _ st7 b hb
     exact (pin' b hb o e).2
   cases b with
   | false =>
    simp only [Bool.false_eq_true,if_false] at q9 ⊢
    exact fin I9 q9
   | true =>
    simp only [if_true] at q9 ⊢
    refine thnF (pe _ s9 σ8 H9 _ I9 q9) fun z s10 ⟨yv,H10,I10,r10,acc,hD10,hz10,nx⟩=>?_
    exact app_ok (X:=X.blk s3 H3 scope ce fp) I10 hD10 hz10 r10 fun s11 I11=>fin I11 nx
 exact codeAny_compStart_list loop (T.self X.A 0 _ _ _ st4 loop)
theorem pe_lc {elt tg iter:Expr} {ifs:List Expr} {scope:Scope} {own:List (Str × Nat)} {pos:Pos} {wi:TI} {g:TG} {tt:TT} {te:TE} (hc:X.calm = true) (hN:X.N.Nodup) (hi:PI X tg iter wi) (ok:BlkOk X.N X.env.scope scope own)
  (hg:∀ (s:Shared) (H:Hp) (C:Addr) (cl:List (Str × Addr)) (fp:List Addr),PG (X.blk s H scope (compEnvC scope cl C X.env) fp) tg g) (ht:∀ (s:Shared) (H:Hp) (C:Addr) (cl:List (Str × Addr)) (fp:List Addr),PTs (X.blk s H scope (compEnvC scope cl C X.env) fp) ifs tt)
  (he:∀ (s:Shared) (H:Hp) (C:Addr) (cl:List (Str × Addr)) (fp:List Addr),PE (X.blk s H scope (compEnvC scope cl C X.env) fp) elt te) (hs:∀ x,foldedSetIterable iter X.env x = pure x:=by intro _; rfl) :
  PE X (.ListComp elt [⟨tg,iter,ifs,0⟩] scope pos) (tLc wi g tt te (own.map (·.2))):=by
 intro pins s σ H Q I h
 rw [eval_ListComp]
 refine lc_core hc hN I hi ok hg ht he hs h fun D C s' m H' I' q hn f=>⟨m,hn,fun h'' sb=>?_⟩
 obtain ⟨f0,f1,f2,f3,f4,f5⟩:=f
 exact ⟨.ref D,H',I'.turned (t':=s'.toks) (fun b o hb e=>(sb.2 b hb).trans e) f0 f1 f3 f4 f5,rfl,q⟩
theorem ps_setLc {i:Nat} {y:Str} {py:Pos} {elt tg iter:Expr} {ifs:List Expr} {scope:Scope} {own:List (Str × Nat)} {pos spos:Pos} {wi:TI} {g:TG} {tt:TT} {te:TE} (hc:X.calm = true) (hN:X.N.Nodup) (hy:X.N[i]? = some y) (hyl:X.env.scope.names.lookup y = some .local)
  (hsw:swapsWith (.ListComp elt [⟨tg,iter,ifs,0⟩] scope pos) (some (.Name y py)) spos.line X.env = pure true) (hi:PI X tg iter wi) (ok:BlkOk X.N X.env.scope scope own)
  (hg:∀ (s:Shared) (H:Hp) (C:Addr) (cl:List (Str × Addr)) (fp:List Addr),PG (X.blk s H scope (compEnvC scope cl C X.env) fp) tg g) (ht:∀ (s:Shared) (H:Hp) (C:Addr) (cl:List (Str × Addr)) (fp:List Addr),PTs (X.blk s H scope (compEnvC scope cl C X.env) fp) ifs tt)
  (he:∀ (s:Shared) (H:Hp) (C:Addr) (cl:List (Str × Addr)) (fp:List Addr),PE (X.blk s H scope (compEnvC scope cl C X.env) fp) elt te) (hs:∀ x,foldedSetIterable iter X.env x = pure x:=by intro _; rfl) :
  PS X (.Assign [.Name y py] (.ListComp elt [⟨tg,iter,ifs,0⟩] scope pos) spos) (tAsg (tLc wi g tt te (own.map (·.2))) (gName i)):=by
 intro pins s σ H D I h
 rw [exec_Assign_Name_used _ _ _ _ hsw]
 refine wpAny_bind (wpAny_standAt (wpAny_bind ?_))
 show wpAny _ X.A (do let _ ← comprehension (.ListComp elt [⟨tg,iter,ifs,0⟩] scope pos) scope X.env (firstIterPos [⟨tg,iter,ifs,0⟩] pos) (newList []) false (eval iter X.env) (some (assign (.Name y py) X.env))) _ _ s
 have h:tLc wi g tt te (own.map (·.2)) σ H (fun x H1=>gName i x σ H1 D.nx):=h
 refine wpAny_bind (thn (lc_core (Qf:=fun _ s'=>SP X pins D .next s') hc hN I hi ok hg ht he hs h fun L C s' m H' I' q hn f=>?_) fun _ s' hq=>wpAny_pure (wpAny_pure hq))
 show wpAny _ _ (assign (.Name y py) X.env (.ref L)) _ _ _
 refine wpAny_assign_Name (store_ok2 (v:=V.ref L) I' hN hy (.inl hyl) rfl (fun s2 I2 ⟨a,sb,ha⟩=>?_) (.inr hyl))
 obtain ⟨f0,f1,f2,f3,f4,f5⟩:=f
 have haC:C≠a:=by
  rcases ha with z | z
  ·rw [z]; exact f1
  ·exact fun e=>f4 y a z e.symm
 refine ⟨m,hn.sameBut sb haC,fun h3 sb3=>?_⟩
 exact ⟨_,H',I2.turned (t':=s2.toks) (fun b o hb e=>(sb3.2 b hb).trans e) f0 f1 f3 f4 f5,q⟩
end
theorem lc_range {lo:Int} {n:Nat} {g:TG} {tt:TT} {te:TE} {vs:List Nat} {σ:St} {H1:Hp} {D:Addr} {Qd:Hp→Prop} (Pv:Nat→Hp→Prop) (h0:Pv 0 (upd H1 D (.lst [])))
  (hs:∀ i H,i < n→Pv i H→g (.int (lo + i)) (wipe σ vs) H fun σ2 H2=>wipe σ2 vs = wipe σ vs∧tt σ2 H2 fun b H3 =>
   if b = true then te σ2 H3 fun y H4=>∃ acc,H4 D = some (.lst acc)∧acc.length < sizeLine∧Pv (i + 1) (upd H4 D (.lst (acc ++ [y]))) else Pv (i + 1) H3) (hd:∀ H,Pv n H→Qd H) :
  ∃ W:Nat→Nat→Hp→Prop,(∃ m,W 0 m (upd H1 D (.lst [])))∧∀ i m H,W i m H →
   ((Itr lo n).stop i H∧Qd H)∨((Itr lo n).go i H∧∃ Nx:Hp→Prop,(∀ H',Nx H'→∃ m',m' < m∧W (i + 1) m' H')∧∀ x H',(Itr lo n).yld i H x H'→g x (wipe σ vs) H' fun σ2 H2=>wipe σ2 vs = wipe σ vs∧tt σ2 H2 fun b H3 =>
    if b = true then te σ2 H3 fun y H4=>∃ acc,H4 D = some (.lst acc)∧acc.length < sizeLine∧Nx (upd H4 D (.lst (acc ++ [y]))) else Nx H3):=by
 refine ⟨fun i m H=>m = n - i∧i≤n∧Pv i H,⟨n,by simp,Nat.zero_le _,h0⟩,?_⟩
 rintro i m H ⟨rfl,hi,p⟩
 by_cases hlt:i < n
 ·refine .inr ⟨hlt,Pv (i + 1),fun H' p'=>⟨n - (i + 1),by omega,rfl,hlt,p'⟩,fun x H' y=>?_⟩
  obtain ⟨e,y⟩:=y
  subst e y
  exact hs i _ hlt p
 ·have e:i = n:=by omega
  subst e
  exact .inl ⟨Nat.le_refl _,hd H p⟩
theorem lc_list {K:PySem.W.Frag} {a:Addr} {xs:List V} {g:TG} {tt:TT} {te:TE} {vs:List Nat} {σ:St} {H1:Hp} {D:Addr} {Qd:Hp→Prop} (Pv:Nat→Hp→Prop) (h0:Pv 0 (upd H1 D (.lst []))) (hl:∀ i H,i≤xs.length→Pv i H→SqL K H a xs)
  (hs:∀ i x H,xs[i]? = some x→Pv i H→g x (wipe σ vs) H fun σ2 H2=>wipe σ2 vs = wipe σ vs∧tt σ2 H2 fun b H3 =>
   if b = true then te σ2 H3 fun y H4=>∃ acc,H4 D = some (.lst acc)∧acc.length < sizeLine∧Pv (i + 1) (upd H4 D (.lst (acc ++ [y]))) else Pv (i + 1) H3) (hd:∀ H,Pv xs.length H→Qd H) :
  ∃ W:Nat→Nat→Hp→Prop,(∃ m,W 0 m (upd H1 D (.lst [])))∧∀ i m H,W i m H →
   ((Itl K a).stop i H∧Qd H)∨((Itl K a).go i H∧∃ Nx:Hp→Prop,(∀ H',Nx H'→∃ m',m' < m∧W (i + 1) m' H')∧∀ x H',(Itl K a).yld i H x H'→g x (wipe σ vs) H' fun σ2 H2=>wipe σ2 vs = wipe σ vs∧tt σ2 H2 fun b H3 =>
    if b = true then te σ2 H3 fun y H4=>∃ acc,H4 D = some (.lst acc)∧acc.length < sizeLine∧Nx (upd H4 D (.lst (acc ++ [y]))) else Nx H3):=by
 refine ⟨fun i m H=>m = xs.length - i∧i≤xs.length∧Pv i H,⟨xs.length,by simp,Nat.zero_le _,h0⟩,?_⟩
 rintro i m H ⟨rfl,hi,p⟩
 have q:=hl i H hi p
 by_cases hlt:i < xs.length
 ·refine .inr ⟨⟨xs,xs[i],q,by simp [hlt]⟩,Pv (i + 1),fun H' p'=>⟨xs.length - (i + 1),by omega,rfl,hlt,p'⟩,fun x H' y=>?_⟩
  obtain ⟨e,y⟩:=y
  subst e
  exact hs i x _ (y xs q) p
 ·have e:i = xs.length:=by omega
  subst e
  exact .inl ⟨⟨xs,q,Nat.le_refl _⟩,hd H p⟩
theorem lc_tup {K:PySem.W.Frag} {a:Addr} {xs:List V} {g:TG} {tt:TT} {te:TE} {vs:List Nat} {σ:St} {H1:Hp} {D:Addr} {Qd:Hp→Prop} (Pv:Nat→Hp→Prop) (h0:Pv 0 (upd H1 D (.lst []))) (hl:∀ i H,i≤xs.length→Pv i H→SqT K H a xs)
  (hs:∀ i x H,xs[i]? = some x→Pv i H→g x (wipe σ vs) H fun σ2 H2=>wipe σ2 vs = wipe σ vs∧tt σ2 H2 fun b H3 =>
   if b = true then te σ2 H3 fun y H4=>∃ acc,H4 D = some (.lst acc)∧acc.length < sizeLine∧Pv (i + 1) (upd H4 D (.lst (acc ++ [y]))) else Pv (i + 1) H3) (hd:∀ H,Pv xs.length H→Qd H) :
  ∃ W:Nat→Nat→Hp→Prop,(∃ m,W 0 m (upd H1 D (.lst [])))∧∀ i m H,W i m H →
   ((Itt K a).stop i H∧Qd H)∨((Itt K a).go i H∧∃ Nx:Hp→Prop,(∀ H',Nx H'→∃ m',m' < m∧W (i + 1) m' H')∧∀ x H',(Itt K a).yld i H x H'→g x (wipe σ vs) H' fun σ2 H2=>wipe σ2 vs = wipe σ vs∧tt σ2 H2 fun b H3 =>
    if b = true then te σ2 H3 fun y H4=>∃ acc,H4 D = some (.lst acc)∧acc.length < sizeLine∧Nx (upd H4 D (.lst (acc ++ [y]))) else Nx H3):=by
 refine ⟨fun i m H=>m = xs.length - i∧i≤xs.length∧Pv i H,⟨xs.length,by simp,Nat.zero_le _,h0⟩,?_⟩
 rintro i m H ⟨rfl,hi,p⟩
 have q:=hl i H hi p
 by_cases hlt:i < xs.length
 ·refine .inr ⟨⟨xs,xs[i],q,by simp [hlt]⟩,Pv (i + 1),fun H' p'=>⟨xs.length - (i + 1),by omega,rfl,hlt,p'⟩,fun x H' y=>?_⟩
  obtain ⟨e,y⟩:=y
  subst e
  exact hs i x _ (y xs q) p
 ·have e:i = xs.length:=by omega
  subst e
  exact .inl ⟨⟨xs,q,Nat.le_refl _⟩,hd H p⟩
def blkC (N:List Str) (sc scope:Scope) (own:List (Str × Nat)):Bool :=
 (match scope.kind with | .function=>true | _=>false) && (scope.names.all fun y=>decide (scope.names.lookup y.1 = some y.2)) && (own.all fun p=>decide (N[p.2]? = some p.1)) &&
  (scope.names.all fun y=>match y.2 with
   | .free=>(match sc.names.lookup y.1 with | some .cell=>true | some .free=>true | _=>false)
   | .local=>decide (y.1 ∈ own.map (·.1)) || decide (y.1 ∉ N)
   | .cell=>decide (y.1 ∈ own.map (·.1)) || decide (y.1 ∉ N)
   | _=>true)
theorem blkOk_by {N:List Str} {sc scope:Scope} {own:List (Str × Nat)} (h:blkC N sc scope own = true):BlkOk N sc scope own:=by
 unfold blkC at h
 simp only [Bool.and_eq_true,List.all_eq_true,decide_eq_true_eq] at h
 obtain ⟨⟨⟨h1,h2⟩,h3⟩,h4⟩:=h
 refine ⟨?_,h2,h3,fun y hy e=>?_,fun y hy e=>?_⟩
 ·split at h1
  ·assumption
  ·cases h1
 ·have q:=h4 y hy
  simp only [e] at q
  split at q <;> first | exact .inl (by assumption) | exact .inr (by assumption) | cases q
 ·have q:=h4 y hy
  rcases e with e | e <;> (simp only [e,Bool.or_eq_true,decide_eq_true_eq] at q; exact q)
end L2
namespace L2
open PySem PySem.Spec PyProof.Rows
section
variable {prog:Program} {w:World} {A:Around} {R:Result→Shared→Prop} {s:Shared} {elt t0 i0 t1 i1:Expr} {ifs0 ifs1:List Expr} {scope:Scope} {pos:Pos} {it acc:Value} {env:Env}
end
section
variable {X:Cx}
end
end L2
namespace L2
open PySem PySem.Spec PyProof.Rows
section
variable {κ:Type} [DecidableEq κ]
def valV (kvs:List (κ × V)) (k:κ):Option V:=(kvs.find? fun kv=>decide (kv.1 = k)).map (·.2)
def putK (kvs:List (κ × V)) (k:κ) (v:V):List (κ × V) :=
 if (kvs.any fun kv=>decide (kv.1 = k)) = true then kvs.map (fun kv=>if kv.1 = k then (kv.1,v) else kv) else kvs ++ [(k,v)]
theorem valV_pos {p:κ × V} {r:List (κ × V)} {k:κ} (e:p.1 = k):valV (p :: r) k = some p.2:=by simp [valV,List.find?_cons,e]
theorem valV_neg {p:κ × V} {r:List (κ × V)} {k:κ} (e:¬ p.1 = k):valV (p :: r) k = valV r k:=by simp [valV,List.find?_cons,e]
theorem valV_any (k:κ):∀ kvs:List (κ × V),(kvs.any fun kv=>decide (kv.1 = k)) = (valV kvs k).isSome
 | []=>rfl
 | p :: r=>by
  rw [List.any_cons]
  by_cases e:p.1 = k
  ·simp only [valV_pos e,decide_eq_true e,Bool.true_or,Option.isSome_some]
  ·rw [valV_neg e,decide_eq_false e,Bool.false_or]; exact valV_any k r
theorem valV_map (k j:κ) (y:V):∀ kvs:List (κ × V),valV (kvs.map fun kv=>if kv.1 = k then (kv.1,y) else kv) j = (valV kvs j).map fun x=>if j = k then y else x
 | []=>rfl
 | p :: r=>by
  have ih:=valV_map k j y r
  rw [List.map_cons]
  by_cases h:p.1 = k
  ·rw [if_pos h]
   by_cases e:p.1 = j
   ·rw [valV_pos (p:=(p.1,y)) e,valV_pos e,Option.map_some,if_pos (e.symm.trans h)]
   ·rw [valV_neg (p:=(p.1,y)) e,valV_neg e,ih]
  ·rw [if_neg h]
   by_cases e:p.1 = j
   ·rw [valV_pos (p:=p) e,valV_pos e,Option.map_some,if_neg (fun z=>h (e.trans z))]
   ·rw [valV_neg (p:=p) e,valV_neg e,ih]
theorem valV_snoc (k j:κ) (y:V):∀ kvs:List (κ × V),valV kvs k = none→valV (kvs ++ [(k,y)]) j = if j = k then some y else valV kvs j
 | [],_=>by
  by_cases e:k = j
  ·rw [if_pos e.symm]; exact valV_pos (p:=(k,y)) e
  ·rw [if_neg (fun z=>e z.symm)]; exact valV_neg (p:=(k,y)) e
 | p :: r,hn=>by
  rw [List.cons_append]
  have hk:¬ p.1 = k:=fun z=>by rw [valV_pos z] at hn; cases hn
  rw [valV_neg hk] at hn
  have ih:=valV_snoc k j y r hn
  by_cases e:p.1 = j
  ·rw [valV_pos e,valV_pos e,if_neg (fun z=>hk (e.trans z))]
  ·rw [valV_neg e,valV_neg e,ih]
theorem valV_put (kvs:List (κ × V)) (k j:κ) (y:V):valV (putK kvs k y) j = if j = k then some y else valV kvs j:=by
 unfold putK
 by_cases a:(kvs.any fun kv=>decide (kv.1 = k)) = true
 ·rw [if_pos a,valV_map]
  rw [valV_any] at a
  by_cases e:j = k
  ·obtain ⟨x,hx⟩:=Option.isSome_iff_exists.mp a
   rw [if_pos e,e,hx,Option.map_some,if_pos rfl]
  ·rw [if_neg e]
   cases valV kvs j with
   | none=>rfl
   | some x=>rw [Option.map_some,if_neg e]
 ·rw [if_neg a]
  refine valV_snoc k j y kvs ?_
  rw [valV_any] at a
  cases q:valV kvs k with
  | none=>rfl
  | some x=>rw [q] at a; exact (a rfl).elim
theorem length_putK (kvs:List (κ × V)) (k:κ) (v:V):(putK kvs k v).length≤kvs.length + 1:=by
 unfold putK
 split
 ·rw [List.length_map]; omega
 ·rw [List.length_append,List.length_cons,List.length_nil]; omega
theorem putK_new {kvs:List (κ × V)} {k:κ} (v:V) (h:valV kvs k = none):putK kvs k v = kvs ++ [(k,v)]:=by
 unfold putK
 rw [valV_any,h]
 exact if_neg (by decide)
theorem RelO.isSome_eq {o:Option V} {u:Option Value} (r:RelO o u):o.isSome = u.isSome:=by
 cases o with
 | none=>cases u with
  | none=>rfl
  | some _=>exact (show False from r).elim
 | some _=>cases u with
  | none=>exact (show False from r).elim
  | some _=>rfl
theorem KV.val {kvs:List (κ × V)} {vs:List (κ × Value)} (r:KV kvs vs) (k:κ):RelO (valV kvs k) (valueAt vs k):=by
 unfold KV at r
 induction r with
 | nil=>exact True.intro
 | @cons p q ps qs h t ih =>
  obtain ⟨h1,h2⟩:=h
  by_cases e:p.1 = k
  ·have e':q.1 = k:=h1.symm.trans e
   have b:valueAt (q :: qs) k = some q.2:=by simp [valueAt,List.find?_cons,e']
   rw [valV_pos e,b]; exact h2
  ·have e':¬ q.1 = k:=fun z=>e (h1.trans z)
   have b:valueAt (q :: qs) k = valueAt qs k:=by simp [valueAt,List.find?_cons,e']
   rw [valV_neg e,b]; exact ih
theorem KV.any {kvs:List (κ × V)} {vs:List (κ × Value)} (r:KV kvs vs) (k:κ):(kvs.any fun kv=>decide (kv.1 = k)) = vs.any fun kv=>decide (kv.1 = k):=by
 unfold KV at r
 induction r with
 | nil=>rfl
 | cons h t ih=>rw [List.any_cons,List.any_cons,ih,h.1]
theorem KV.repl {kvs:List (κ × V)} {vs:List (κ × Value)} (r:KV kvs vs) (k:κ) {y:V} {u:Value} (ry:RelV y u) :
  KV (kvs.map fun kv=>if kv.1 = k then (kv.1,y) else kv) (vs.map fun kv=>if kv.1 = k then (kv.1,u) else kv):=by
 unfold KV at r ⊢
 induction r with
 | nil=>exact .nil
 | @cons p q ps qs h t ih =>
  rw [List.map_cons,List.map_cons]
  refine .cons ?_ ih
  obtain ⟨h1,h2⟩:=h
  by_cases e:p.1 = k
  ·rw [if_pos e,if_pos (h1.symm.trans e)]; exact ⟨h1,ry⟩
  ·rw [if_neg e,if_neg (fun z=>e (h1.trans z))]; exact ⟨h1,h2⟩
theorem KV.put {kvs:List (κ × V)} {vs:List (κ × Value)} (r:KV kvs vs) (k:κ) {y:V} {u:Value} (ry:RelV y u):KV (putK kvs k y) (stored vs k u):=by
 unfold putK stored
 rw [r.any k]
 by_cases e:(vs.any fun kv=>decide (kv.1 = k)) = true
 ·rw [if_pos e,if_pos e]; exact r.repl k ry
 ·rw [if_neg e,if_neg e]; exact Paired.snoc r ⟨rfl,ry⟩
theorem KV.length {kvs:List (κ × V)} {vs:List (κ × Value)} (r:KV kvs vs):kvs.length = vs.length:=Paired.length r
end
theorem kV_is {P:Program} {w:World} {k:Key} {u:Value} (r:RelV (kV k) u):(mixKind P w).is k u = true:=by
 cases k with
 | inl i=>obtain ⟨t,e⟩:=(show ∃ t,u = Value.int i t from r); subst e; exact mixKind_int P w i t
 | inr x=>obtain ⟨t,e⟩:=(show ∃ t,u = Value.str x t from r); subst e; exact mixKind_str P w x t
theorem items_are {P:Program} {w:World}:∀ {ks:List Key} {us:List Value},Vals (ks.map kV) us→ItemsAre (mixKind P w) ks us
 | [],_,r=>by rw [List.map_nil] at r; cases r; exact .nil
 | k :: ks,_,r=>by
  rw [List.map_cons] at r
  cases r with
  | cons h t=>exact .cons (kV_is h) (items_are t)
abbrev KT (H:Hp):List (List Key × V)→List (List Key × Addr × Value)→Prop:=Paired fun p q=>p.1 = q.1∧H q.2.1 = some (.tup (p.1.map kV))∧RelV p.2 q.2.2
theorem KT.val {H:Hp} {kvs:List (List Key × V)} {xs:List (List Key × Addr × Value)} (r:KT H kvs xs) (k:List Key):RelO (valV kvs k) ((atKey xs k).map (·.2)):=by
 induction r with
 | nil=>exact True.intro
 | @cons p q ps qs h t ih =>
  obtain ⟨h1,_,h2⟩:=h
  by_cases e:p.1 = k
  ·have e':q.1 = k:=h1.symm.trans e
   have b:atKey (q :: qs) k = some q.2:=by simp [atKey,List.find?_cons,e']
   rw [valV_pos e,b]; exact h2
  ·have e':¬ q.1 = k:=fun z=>e (h1.trans z)
   have b:atKey (q :: qs) k = atKey qs k:=by simp [atKey,List.find?_cons,e']
   rw [valV_neg e,b]; exact ih
theorem KT.repl {H:Hp} {kvs:List (List Key × V)} {xs:List (List Key × Addr × Value)} (r:KT H kvs xs) (k:List Key) {y:V} {u:Value} (ry:RelV y u) :
  KT H (kvs.map fun kv=>if kv.1 = k then (kv.1,y) else kv) (xs.map (putAt k u)):=by
 induction r with
 | nil=>exact .nil
 | @cons p q ps qs h t ih =>
  rw [List.map_cons,List.map_cons]
  refine .cons ?_ ih
  obtain ⟨h1,h2,h3⟩:=h
  unfold putAt
  by_cases e:p.1 = k
  ·rw [if_pos e,if_pos (h1.symm.trans e)]; exact ⟨h1,h2,ry⟩
  ·rw [if_neg e,if_neg (fun z=>e (h1.trans z))]; exact ⟨h1,h2,h3⟩
theorem KT.put {H:Hp} {kvs:List (List Key × V)} {xs:List (List Key × Addr × Value)} (r:KT H kvs xs) (k:List Key) {b:Addr} {y:V} {u:Value} (hb:H b = some (.tup (k.map kV))) (ry:RelV y u) :
  KT H (putK kvs k y) (storedH xs k b u):=by
 have e:(kvs.any fun kv=>decide (kv.1 = k)) = (atKey xs k).isSome:=by
  rw [valV_any,(r.val k).isSome_eq,Option.isSome_map]
 unfold putK storedH
 rw [e]
 by_cases q:(atKey xs k).isSome = true
 ·rw [if_pos q,if_pos q]; exact r.repl k ry
 ·rw [if_neg q,if_neg q]; exact Paired.snoc r ⟨rfl,hb,ry⟩
theorem KT.keeps {H H':Hp} {kvs:List (List Key × V)} {xs:List (List Key × Addr × Value)} (r:KT H kvs xs) (ht:∀ b ys,H b = some (.tup ys)→H' b = some (.tup ys)):KT H' kvs xs :=
 Paired.mapP r fun _ _ z=>⟨z.1,ht _ _ z.2.1,z.2.2⟩
section
variable {P:Program} {w:World} {H:Hp} {h:Heap} {a:Addr}
theorem rd_of {u:HO} (ok:HOk P w H h) (e:Rd H a u):ObjOk P w H h a u:=e.ok ok
theorem dk_rd {kvs:List (Key × V)} (ok:HOk P w H h) (e:Rd H a (.dK kvs)):kvs.length≤sizeLine∧(a == sysModules) = false∧∃ vs,KV kvs vs∧h.DictOf (mixKind P w) a vs :=
 show ObjOk P w H h a (.dK kvs) from rd_of ok e
theorem dk_of {kvs:List (Key × V)} (ok:HOk P w H h) (e:H a = some (.dK kvs)):kvs.length≤sizeLine∧(a == sysModules) = false∧∃ vs,KV kvs vs∧h.DictOf (mixKind P w) a vs:=dk_rd ok (.inl e)
theorem key_of {ks:List Key} (ok:HOk P w H h) (e:H a = some (.tup (ks.map kV))):(tupleKind (mixKind P w)).is h ks a:=by
 obtain ⟨_,its,r,o,h1,h2,n,h3⟩:=(show ObjOk P w H h a (.tup (ks.map kV)) from ok a _ e)
 exact ⟨o,its.toArray,n,h1,h2,h3,by simpa using items_are r⟩
theorem dt_rd {kvs:List (List Key × V)} (ok:HOk P w H h) (e:Rd H a (.dT kvs)):kvs.length≤sizeLine∧(a == sysModules) = false ∧
  ∃ xs,KT H kvs xs∧h.DictOfH (tupleKind (mixKind P w)) a xs:=by
 obtain ⟨z,y,xs,r,o,es,ep,h1,h2,h3,h4,h5⟩:=(show ObjOk P w H h a (.dT kvs) from rd_of ok e)
 refine ⟨z,y,xs,r,o,es,ep,h1,h2,h3,h4,fun x hx=>?_,h5⟩
 have all:∀ {l:List (List Key × V)} {m:List (List Key × Addr × Value)},KT H l m→∀ x ∈ m,(tupleKind (mixKind P w)).is h x.1 x.2.1:=by
  intro l m q
  induction q with
  | nil=>intro x hx; exact nomatch hx
  | @cons p q ps qs hq t ih =>
   intro x hx
   rcases List.mem_cons.mp hx with e | hx
   ·subst e
    exact key_of ok (by rw [← hq.1]; exact hq.2.1)
   ·exact ih x hx
 exact all r x hx
theorem dt_of {kvs:List (List Key × V)} (ok:HOk P w H h) (e:H a = some (.dT kvs)):kvs.length≤sizeLine∧(a == sysModules) = false ∧
  ∃ xs,KT H kvs xs∧h.DictOfH (tupleKind (mixKind P w)) a xs:=dt_rd ok (.inl e)
end
def DGet (H:Hp) (a:Addr) (y:V) (r:Option V):Prop :=
 (∃ kvs k,Rd H a (.dK kvs)∧y = kV k∧r = valV kvs k)∨∃ kvs k b,Rd H a (.dT kvs)∧y = .ref b∧H b = some (.tup (k.map kV))∧r = valV kvs k
def DPut (H:Hp) (a:Addr) (y v:V) (H':Hp):Prop :=
 (∃ kvs k,H a = some (.dK kvs)∧y = kV k∧kvs.length < sizeLine∧H' = upd H a (.dK (putK kvs k v))) ∨
 ∃ kvs k b,H a = some (.dT kvs)∧y = .ref b∧H b = some (.tup (k.map kV))∧kvs.length < sizeLine∧H' = upd H a (.dT (putK kvs k v))
theorem DGet.k {H:Hp} {a:Addr} {kvs:List (Key × V)} {k:Key} (e:H a = some (.dK kvs)):DGet H a (kV k) (valV kvs k):=.inl ⟨kvs,k,.inl e,rfl,rfl⟩
theorem DPut.k {H:Hp} {a:Addr} {kvs:List (Key × V)} {k:Key} {v:V} (e:H a = some (.dK kvs)) (hl:kvs.length < sizeLine):DPut H a (kV k) v (upd H a (.dK (putK kvs k v))):=.inl ⟨kvs,k,e,rfl,hl,rfl⟩
section
variable {X:Cx} {pins:List (Addr × Obj)} {σ:St} {H:Hp} {s:Shared} {a:Addr} {y v:V} {u r:Value} {o:Option V} {A:Around} {E:Value→Shared→Prop}
theorem Inv.big (I:Inv X pins σ H s):sysModules < s.heap.objs.size:=by
 have h:mainGlobals < s.heap.objs.size:=(I.mod.glob.keeps I.bk).lt
 exact Nat.lt_trans (by decide) h
theorem d_getItem {Q:Value→Shared→Prop} (hu:A.units + 1 < cLine) (I:Inv X pins σ H s) (g:DGet H a y (some v)) (ry:RelV y u) (h:∀ w' s',Inv X pins σ H s'→RelV v w'→Q w' s') :
  wpAny (model X.prog X.w) A (getItem (.ref a) u) Q E s:=by
 rcases g with ⟨kvs,k,e,ey,l⟩ | ⟨kvs,k,b,e,ey,eb,l⟩
 ·subst ey
  obtain ⟨z,hd,vs,rel,dd⟩:=dk_rd I.hok e
  obtain ⟨w',hw,rw'⟩:=RelO.some_of (v:=v) (o:=valueAt vs k) (by rw [l]; exact rel.val k)
  exact wpAny_getItem_of (kV_is ry) dd.mapOf hw (h w' _ (I.tok _) rw')
 ·subst ey
  cases (show u = Value.ref b from ry)
  obtain ⟨z,hd,xs,rel,dd⟩:=dt_rd I.hok e
  obtain ⟨w',hw,rw'⟩:=RelO.some_of (v:=v) (o:=(atKey xs k).map (·.2)) (by rw [l]; exact rel.val k)
  obtain ⟨p,hp,hp2⟩:=Option.map_eq_some_iff.mp hw
  refine wpAny_getItem_heap (tupleKind_room_in1 hu) (key_of I.hok eb) dd hp ?_
  rw [hp2]
  exact h w' _ (I.tok _) rw'
theorem d_in {Q:Value→Shared→Prop} (hu:A.units + 1 < cLine) (I:Inv X pins σ H s) (g:DGet H a y o) (ry:RelV y u) (h:∀ s',Inv X pins σ H s'→Q (.bool o.isSome) s') :
  wpAny (model X.prog X.w) A (compareOp .In u (.ref a)) Q E s:=by
 rcases g with ⟨kvs,k,e,ey,l⟩ | ⟨kvs,k,b,e,ey,eb,l⟩
 ·subst ey
  obtain ⟨z,hd,vs,rel,dd⟩:=dk_rd I.hok e
  refine wpAny_in_of (kV_is ry) hd dd.mapOf ?_
  rw [← (rel.val k).isSome_eq,← l]
  exact h _ (I.tok _)
 ·subst ey
  cases (show u = Value.ref b from ry)
  obtain ⟨z,hd,xs,rel,dd⟩:=dt_rd I.hok e
  refine wpAny_in_heap (tupleKind_room_in1 hu) (key_of I.hok eb) hd dd ?_
  have q:=(rel.val k).isSome_eq
  rw [Option.isSome_map] at q
  rw [← q,← l]
  exact h _ (I.tok _)
theorem d_notIn {Q:Value→Shared→Prop} (hu:A.units + 1 < cLine) (I:Inv X pins σ H s) (g:DGet H a y o) (ry:RelV y u) (h:∀ s',Inv X pins σ H s'→Q (.bool (!o.isSome)) s') :
  wpAny (model X.prog X.w) A (compareOp .NotIn u (.ref a)) Q E s:=by
 rcases g with ⟨kvs,k,e,ey,l⟩ | ⟨kvs,k,b,e,ey,eb,l⟩
 ·subst ey
  obtain ⟨z,hd,vs,rel,dd⟩:=dk_rd I.hok e
  refine wpAny_notIn_of (kV_is ry) hd dd.mapOf ?_
  rw [← (rel.val k).isSome_eq,← l]
  exact h _ (I.tok _)
 ·subst ey
  cases (show u = Value.ref b from ry)
  obtain ⟨z,hd,xs,rel,dd⟩:=dt_rd I.hok e
  refine wpAny_notIn_heap (tupleKind_room_in1 hu) (key_of I.hok eb) hd dd ?_
  have q:=(rel.val k).isSome_eq
  rw [Option.isSome_map] at q
  rw [← q,← l]
  exact h _ (I.tok _)
theorem d_write {h':Heap} {t':Nat} {ob:HO} (I:Inv X pins σ H s) (mu:Mut (H a)) (hs:Heap.SameBut a s.heap h') (he:∃ q,h'.get? a = some q) (new:ObjOk X.prog X.w (upd H a ob) h' a ob) :
  Inv X pins σ (upd H a ob) { s with heap:=h',toks:=t' } :=
 I.write (x:=a) (e:=a) mu (.inl rfl) (fun b q hb z=>(hs.2 b hb).trans z) he new
theorem dk_new {P:Program} {w:World} {H':Hp} {h':Heap} {kvs:List (Key × V)} {vs:List (Key × Value)} (z:kvs.length≤sizeLine) (hd:(a == sysModules) = false) (rel:KV kvs vs) (dd:h'.DictOf (mixKind P w) a vs) :
  ObjOk P w H' h' a (.dK kvs):=⟨z,hd,vs,rel,dd⟩
theorem d_setItem {H':Hp} {Q:Unit→Shared→Prop} (hu:A.units + 1 < cLine) (I:Inv X pins σ H s) (g:DPut H a y v H') (ry:RelV y u) (rv:RelV v r) (h:∀ s',Inv X pins σ H' s'→Q () s') :
  wpAny (model X.prog X.w) A (setItem (.ref a) u r) Q E s:=by
 rcases g with ⟨kvs,k,e,ey,l,eH⟩ | ⟨kvs,k,b,e,ey,eb,l,eH⟩
 ·subst ey eH
  obtain ⟨z,hd,vs,rel,dd⟩:=dk_of I.hok e
  have hz:vs.length≤sizeLine:=by rw [← rel.length]; exact z
  have hl:(putK kvs k v).length≤sizeLine:=by have:=length_putK kvs k v; omega
  refine wpAny_setItem_pairs (hsz:=hz) (kV_is ry) dd fun h' dd' hs=>h _ ?_
  have he:∃ q,h'.get? a = some q:=let ⟨q,_,_,hq,_⟩:=dd'; ⟨q,hq⟩
  exact d_write I (by rw [e]; exact True.intro) hs he (dk_new hl hd (rel.put k rv) dd')
 ·subst ey eH
  cases (show u = Value.ref b from ry)
  obtain ⟨z,hd,xs,rel,dd⟩:=dt_of I.hok e
  have hz:xs.length≤sizeLine:=by rw [← Paired.length rel]; exact z
  have hl:(putK kvs k v).length≤sizeLine:=by have:=length_putK kvs k v; omega
  refine wpAny_setItem_heap (hsz:=hz) (tupleKind_room_in1 hu) (key_of I.hok eb) dd fun h' dd' hs=>h _ ?_
  obtain ⟨q,es,ep,hq,h2,h3,h4,_,h5⟩:=dd'
  refine d_write I (by rw [e]; exact True.intro) hs ⟨q,hq⟩ ⟨hl,hd,_,(rel.put k eb rv).keeps fun c ys ec=>?_,q,es,ep,hq,h2,h3,h4,h5⟩
  rw [upd_ne (ne_of ec e (fun z=>nomatch z))]
  exact ec
end
section
variable {X:Cx} {pins:List (Addr × Obj)} {σ:St} {H:Hp} {s:Shared} {a:Addr} {kvs:List (Key × V)} {k:Key} {u:Value} {A:Around} {E:Value→Shared→Prop}
theorem d_len {Q:Value→Shared→Prop} (I:Inv X pins σ H s) (e:Rd H a (.dK kvs)) (h:∀ t s',Inv X pins σ H s'→Q (.int kvs.length t) s'):wpAny (model X.prog X.w) A (call (.builtin "len") [.ref a]) Q E s:=by
 obtain ⟨z,hd,vs,rel,dd⟩:=dk_rd I.hok e
 refine call_len_dict hd dd (by rw [← rel.length]; rw [sizeLine_eq] at z; omega) ?_
 rw [← rel.length]
 exact h _ _ (I.tok _)
end
def NoSl (i:Expr):Prop:=∀ ov iv,subscripted i false ov iv = operate [ov,iv] (getItem ov iv)
theorem subD_of {prog:Program} {w:World} {A:Around} {E:Value→Shared→Prop} {s:Shared} {env:Env} {value slice:Expr} {pos:Pos} {T id:String} {Q:Value→Shared→Prop}
  (hl:typeLookup (.type T) "__getitem__" = pure (some (.builtin id))) (hs:NoSl slice)
  (h:wpAny (model prog w) A (eval value env) (fun o s₁=>wpAny (model prog w) A (eval slice env) (fun i s₂=>s₂.TypeIs o T∧wpAny (model prog w) A (getItem o i) Q E s₂) E s₁) E s) :
  wpAny (model prog w) A (eval (.Subscript value slice pos) env) Q E s:=by
 refine Subscript_ (wpAny_mono h (fun o s₁ h₁=>wpAny_mono h₁ (fun i s₂ h₂=>?_) fun _ _ x=>x) fun _ _ x=>x)
 obtain ⟨hT,h₂⟩:=h₂
 unfold subscriptTail
 refine wpAny_bind ?_
 rw [getitemInPython_of_ne hT.not_modules]
 refine wpAny_bind (wpAny_specialOf hT hl ?_)
 have fin:wpAny (model prog w) A (subscripted slice false o i) (fun r s₃=>wpAny (model prog w) A (letTemporaryGo value o r >>= fun _=>pure r) Q E s₃) E s₂:=by
  rw [hs o i]
  exact wpAny_operating (wpAny_mono h₂ (fun r s₃ h₃=>wpAny_bind (wpAny_letTemporaryGo (wpAny_pure h₃))) fun _ _ x=>x)
 first
  | exact wpAny_pure (wpAny_bind fin)
  | exact wpAny_bind (wpAny_pure (wpAny_bind fin))
  | exact wpAny_bind fin
theorem dict_typeIs {X:Cx} {pins:List (Addr × Obj)} {σ:St} {H:Hp} {s:Shared} {a:Addr} {y:V} {o:Option V} (I:Inv X pins σ H s) (g:DGet H a y o):s.TypeIs (.ref a) "dict":=by
 rcases g with ⟨kvs,k,e,_,_⟩ | ⟨kvs,k,b,e,_,_,_⟩
 ·obtain ⟨_,_,vs,_,dd⟩:=dk_rd I.hok e
  exact dd.typeIs
 ·obtain ⟨_,_,xs,_,dd⟩:=dt_rd I.hok e
  exact dd.typeIs
def tDGet (td ty:TE):TE:=fun σ H Q=>td σ H fun x H1=>ty σ H1 fun y H2=>∃ a v,x = .ref a∧DGet H2 a y (some v)∧Q v H2
def tDIn (ty td:TE):TE:=fun σ H Q=>ty σ H fun y H1=>td σ H1 fun x H2=>∃ a o,x = .ref a∧DGet H2 a y o∧Q (.bl o.isSome) H2
def tDNotIn (ty td:TE):TE:=fun σ H Q=>ty σ H fun y H1=>td σ H1 fun x H2=>∃ a o,x = .ref a∧DGet H2 a y o∧Q (.bl (!o.isSome)) H2
def sDPut (td ty tv:TE):TS:=fun D σ H=>tv σ H fun v H1=>td σ H1 fun x H2=>ty σ H2 fun y H3=>∃ a H4,x = .ref a∧DPut H3 a y v H4∧D.nx σ H4
section
variable {X:Cx} {o i e value:Expr} {pos pos' tpos:Pos} {td ty tv:TE}
theorem pe_dget (hu:X.A.units + 1 < cLine) (ho:PE X o td) (hi:PE X i ty) (hs:NoSl i):PE X (.Subscript o i pos) (tDGet td ty):=by
 intro pins s σ H Q I h
 refine subD_of PySem.F.slot_dict_getitem.lookup hs (thn (ho pins s σ H _ I h) fun u s1 ⟨x,H1,I1,rx,q1⟩=>thn (hi pins s1 σ H1 _ I1 q1) fun iv s2 ⟨y,H2,I2,ry,a,v,ex,g,q2⟩=>?_)
 subst ex
 obtain rfl:u = Value.ref a:=rx
 exact ⟨dict_typeIs I2 g,d_getItem hu I2 g ry fun w' s3 I3 rw'=>⟨v,H2,I3,rw',q2⟩⟩
theorem pc_din (hu:X.A.units + 1 < cLine) (hi:PE X i ty) (ho:PE X o td):PC X .In i o (tDIn ty td):=by
 intro pins s σ H Q I h
 refine thn (hi pins s σ H _ I h) fun iv s1 ⟨y,H1,I1,ry,q1⟩=>thn (ho pins s1 σ H1 _ I1 q1) fun u s2 ⟨x,H2,I2,rx,a,ov,ex,g,q2⟩=>?_
 subst ex
 obtain rfl:u = Value.ref a:=rx
 exact d_in hu I2 g ry fun s3 I3=>⟨.bl ov.isSome,H2,I3,rfl,q2⟩
theorem pc_dnotin (hu:X.A.units + 1 < cLine) (hi:PE X i ty) (ho:PE X o td):PC X .NotIn i o (tDNotIn ty td):=by
 intro pins s σ H Q I h
 refine thn (hi pins s σ H _ I h) fun iv s1 ⟨y,H1,I1,ry,q1⟩=>thn (ho pins s1 σ H1 _ I1 q1) fun u s2 ⟨x,H2,I2,rx,a,ov,ex,g,q2⟩=>?_
 subst ex
 obtain rfl:u = Value.ref a:=rx
 exact d_notIn hu I2 g ry fun s3 I3=>⟨.bl (!ov.isSome),H2,I3,rfl,q2⟩
theorem ps_dput (hu:X.A.units + 1 < cLine) (ho:PE X o td) (hi:PE X i ty) (hv:PE X value tv) (hs:swapsWith value (some (.Subscript o i pos')) pos.line X.env = pure false) :
  PS X (.Assign [.Subscript o i pos'] value pos) (sDPut td ty tv):=by
 intro pins s σ H D I h
 refine wpAny_Assign_Subscript (thn (hv pins s σ H _ I h) fun r s1 ⟨v,H1,I1,rv,q1⟩=>thn (ho pins s1 σ H1 _ I1 q1) fun u s2 ⟨x,H2,I2,rx,q2⟩=>thn (hi pins s2 σ H2 _ I2 q2) fun iv s3 ⟨y,H3,I3,ry,a,H4,ex,g,q3⟩=>?_) hs
 subst ex
 obtain rfl:u = Value.ref a:=rx
 exact d_setItem hu I3 g ry rv fun s4 I4=>⟨σ,H4,I4,q3⟩
end
theorem dk_empty {P:Program} {w:World} {H:Hp} (h:Heap) (hb:sysModules < h.objs.size):ObjOk P w H (h.push { cls:=.type "dict",data:=.dict #[] }) h.objs.size (.dK []) :=
 ⟨Nat.zero_le _,beq_eq_false_iff_ne.mpr (Ne.symm (Nat.ne_of_lt hb)),[],.nil,Heap.DictOf.new h⟩
theorem dt_empty {P:Program} {w:World} {H:Hp} (h:Heap) (hb:sysModules < h.objs.size):ObjOk P w H (h.push { cls:=.type "dict",data:=.dict #[] }) h.objs.size (.dT []) :=
 ⟨Nat.zero_le _,beq_eq_false_iff_ne.mpr (Ne.symm (Nat.ne_of_lt hb)),[],.nil,_,#[],0,Heap.get?_push_size _ rfl,⟨rfl,rfl,rfl⟩,rfl,rfl,List.nodup_nil⟩
def tDNewK:TE:=fun _ H Q=>∀ p,H p = none→Q (.ref p) (upd H p (.dK []))
def tDNewT:TE:=fun _ H Q=>∀ p,H p = none→Q (.ref p) (upd H p (.dT []))
section
variable {X:Cx} {pos:Pos}
theorem pe_dnewK:PE X (.Dict [] [] pos) tDNewK:=fun pins s σ H Q I h =>
 wpAny_Dict_empty ⟨.ref s.heap.objs.size,_,I.laid (a:=s.heap.objs.size) (o:=.dK []) (t':=s.toks) (fun _ _ q=>Heap.get?_push_of_some _ q) (Nat.le_refl _) (dk_empty s.heap I.big),rfl,h _ (I.hok.fresh (Nat.le_refl _))⟩
theorem pe_dnewT:PE X (.Dict [] [] pos) tDNewT:=fun pins s σ H Q I h =>
 wpAny_Dict_empty ⟨.ref s.heap.objs.size,_,I.laid (a:=s.heap.objs.size) (o:=.dT []) (t':=s.toks) (fun _ _ q=>Heap.get?_push_of_some _ q) (Nat.le_refl _) (dt_empty s.heap I.big),rfl,h _ (I.hok.fresh (Nat.le_refl _))⟩
end
section
variable {X:Cx} {pins:List (Addr × Obj)} {σ:St} {H:Hp} {s:Shared} {a:Addr} {y d:V} {u r:Value} {o:Option V} {A:Around} {E:Value→Shared→Prop}
end
section
variable {X:Cx} {o e f:Expr} {apos cpos:Pos} {td ty tx:TE}
end
section
variable {X:Cx} {pins:List (Addr × Obj)} {σ:St} {H:Hp} {s:Shared} {a:Addr} {kvs:List (Key × V)} {A:Around} {E:Value→Shared→Prop}
end
section
variable {X:Cx} {pins:List (Addr × Obj)} {σ:St} {H:Hp} {s:Shared} {a:Addr} {y:V} {u:Value} {A:Around} {E:Value→Shared→Prop}
end
end L2
namespace L2
open PySem PySem.Spec PyProof.Rows
section
variable {prog:Program} {w:World} {A:Around} {E:Value→Shared→Prop}
end
section
variable {X:Cx}
end
end L2
namespace L2
open PySem PySem.Spec PyProof.Rows
theorem boot_reversed5:bootBuiltins "reversed" = some (.type "reversed"):=by decide +kernel
section
variable {X:Cx} {pins:List (Addr × Obj)} {σ:St} {H:Hp} {s:Shared} {h':Heap}
theorem Inv.turnedL {t':Nat} {ch:List Addr} (I:Inv X pins σ H s) (k:∀ b o,b ∉ ch→s.heap.get? b = some o→h'.get? b = some o) (hf:∀ b ∈ ch,FpOk X pins H b):Inv X pins σ H { s with heap:=h',toks:=t' }:=by
 have nit:∀ b u,H b = some u→b ∉ ch:=fun b u e z=>by
  have q:=(hf b z).1
  rw [q] at e; cases e
 refine I.step (g':=s.gens) (d':=s.drawn) (ch:=ch) (fun b hb=>⟨(hf b hb).2.2.2.1,(hf b hb).2.1,(hf b hb).2.2.2.2.1,(hf b hb).2.2.2.2.2⟩) (fun b o _ _ hc e _=>k b o hc e) (fun b o _ _ hc e _=>⟨o.slots,k b o hc e⟩)
  (fun _ _ _ _ n=>n) (fun b o hc e=>⟨o,k b o hc e⟩) (fun _ _ e=>e) (fun _ _ _ e=>e) (fun b ps e=>⟨#[],by rw [e]; simp⟩) (fun m hm=>?_) (fun b u e=>?_) I.bare
 ·obtain ⟨o,es,ep,ho,r⟩:=hm
  exact ⟨o,es,ep,k _ o (fun z=>(hf _ z).2.1 rfl) ho,r⟩
 ·refine (I.hok b u e).stay (fun c v hc q=>k c v ?_ q) (fun _ q=>q) fun _ _ q=>q
  rcases hc with z | z
  ·rw [z]; exact nit b u e
  ·exact nit c _ z
theorem Inv.turnedNew {t':Nat} {ch:List Addr} {T:Addr} {ob:HO} (I:Inv X pins σ H s) (k:∀ b o,b ∉ ch→s.heap.get? b = some o→h'.get? b = some o) (hf:∀ b ∈ ch,FpOk X pins H b) (hT:s.heap.objs.size≤T)
  (new:ObjOk X.prog X.w (upd H T ob) h' T ob):Inv X pins σ (upd H T ob) { s with heap:=h',toks:=t' }:=by
 have hn:H T = none:=I.hok.fresh hT
 have nit:∀ b u,H b = some u→b ∉ ch:=fun b u e z=>by
  have q:=(hf b z).1
  rw [q] at e; cases e
 refine I.step (g':=s.gens) (d':=s.drawn) (ch:=ch) (fun b hb=>⟨(hf b hb).2.2.2.1,(hf b hb).2.1,(hf b hb).2.2.2.2.1,(hf b hb).2.2.2.2.2⟩) (fun b o _ _ hc e _=>k b o hc e) (fun b o _ _ hc e _=>⟨o.slots,k b o hc e⟩)
  (fun b o _ e n=>?_) (fun b o hc e=>⟨o,k b o hc e⟩) (fun b xs e=>?_) (fun b o u e=>?_) (fun b ps e=>⟨#[],?_⟩) (fun m hm=>?_) (fun b u e=>?_) I.bare
 ·rw [upd_ne (Nat.ne_of_lt (Nat.lt_of_lt_of_le (Heap.lt_size e) hT))]; exact n
 ·rw [upd_ne (ne_of_none e hn)]; exact e
 ·rw [upd_ne (ne_of_none e hn)]; exact e
 ·rw [upd_ne (ne_of_none e hn),e]; simp
 ·obtain ⟨o,es,ep,ho,r⟩:=hm
  exact ⟨o,es,ep,k _ o (fun z=>(hf _ z).2.1 rfl) ho,r⟩
 ·by_cases hb:b = T
  ·subst hb
   rw [upd_same] at e
   cases e
   exact new
  ·rw [upd_ne hb] at e
   refine (I.hok b u e).stay (fun c v hc q=>k c v ?_ q) (fun c q=>by rw [upd_ne (ne_of_none q hn)]; exact q) fun c xs q=>by rw [upd_ne (ne_of_none q hn)]; exact q
   rcases hc with z | z
   ·rw [z]; exact nit b u e
   ·exact nit c _ z
end
section
variable {X:Cx}
theorem pi_one {tg:Expr} {pins:List (Addr × Obj)} {σ:St} {H:Hp} {s:Shared} {R:It→Hp→Prop} {J:It} {tn:Nat→Heap→Prop} {tk:Nat} (I:Inv X pins σ H s) (o:Obj)
  (T:Turn X.prog X.w X.K tg J [s.heap.objs.size] s.heap.objs.size tn) (st:tn 0 (s.heap.push o)) (q:R J H):PIE X pins σ tg R (.ref s.heap.objs.size) { s with heap:=s.heap.push o,toks:=tk }:=by
 refine ⟨s.heap.objs.size,[s.heap.objs.size],tn,J,H,rfl,I.kept fun b ob e=>Heap.get?_push_of_some _ e,T,st,fun b hb=>?_,q⟩
 have e:b = s.heap.objs.size:=by simpa using hb
 subst e
 exact I.fpOk (Nat.le_refl _) (I.hok.fresh (Nat.le_refl _))
end
section
variable {X:Cx} {tg:Expr}
end
section
variable {X:Cx} {tg:Expr}
end
def Its (x:Str):It:=⟨fun i _=>i < x.cps.size,fun i H v H'=>H' = H∧∃ c,x.cps[i]? = some c∧v = .str ⟨#[c]⟩,fun i _=>x.cps.size≤i⟩
theorem turn_str {P:Program} {w:World} {K:PySem.W.Frag} {tg:Expr} (it:Addr) (x:Str) (t:Tok) (ty:String) (hty:ty = "str_ascii_iterator"∨ty = "str_iterator") :
  Turn P w K tg (Its x) [it] it (fun i h=>h.IsStrIter it ty x t i) where
 mem:=by simp
 obj:=fun i h st b hb=>by
  have e:b = it:=by simpa using hb
  subst e
  obtain ⟨o,e,c,d⟩:=st
  exact ⟨o,e,fun v z=>by rw [d] at z; cases z⟩
 keep:=fun i h h' st k=>let ⟨o,ho,r⟩:=st; ⟨o,k it (by simp) o ho,r⟩
 item:=by
  intro X hP hw hK hc i pins s σ H E I hf st hg
  subst hP hw hK
  obtain ⟨f0,f1,f2,f3,f4,f5⟩:=hf it (by simp)
  have W:Walks X.prog X.w X.A it [it] [it] x.cps.size (SignAt x) (fun i h=>h.IsStrIter it ty x t i):=by
   rcases hty with e | e
   ·rw [e]; exact Walks.strAscii (I.ok.hd hc) it x t
   ·rw [e]; exact Walks.strWide (I.ok.hd hc) it x t
  have hno:["enumerate","zip","dict_itemiterator","dict_reverseitemiterator","odict_iterator","itertools.zip_longest","itertools.pairwise"].contains ty = false:=by
   rcases hty with e | e
   ·rw [e]; decide
   ·rw [e]; decide
  refine W.item i s _ _ hg st fun v h' tk hv st' kk=>?_
  obtain ⟨c,u,hcx,rfl⟩:=hv
  have I1:Inv X pins σ H { s with heap:=h',toks:=tk }:=I.turned (fun b o hb e=>kk b o (by simpa using hb) e) f0 f1 f3 f4 f5
  obtain ⟨oi,e,cc,dd⟩:=id st'
  exact ⟨_,rfl,go_of (s:={ s with heap:=h',toks:=tk }) e cc dd hno ⟨.str ⟨#[c]⟩,H,I1,⟨u,rfl⟩,⟨rfl,c,hcx,rfl⟩,st',fun b hb=>(hf b hb).1⟩⟩
 done:=by
  intro X hP hw hK hc i pins s σ H E I hf st hg
  subst hP hw hK
  obtain ⟨f0,f1,f2,f3,f4,f5⟩:=hf it (by simp)
  have hx:x.cps[i]? = none:=Array.getElem?_eq_none hg
  rcases hty with e | e
  ·rw [e] at st
   exact wpAny_pyNext_ascii_end (I.ok.hd hc) st hx fun h' eb=>⟨rfl,I.turned (t':=s.toks) (fun b o hb e=>eb b o hb e) f0 f1 f3 f4 f5⟩
  ·rw [e] at st
   exact wpAny_pyNext_wide_end (I.ok.hd hc) st hx fun h' eb=>⟨rfl,I.turned (t':=s.toks) (fun b o hb e=>eb b o hb e) f0 f1 f3 f4 f5⟩
 self:=fun A i s Q E st h=>by
  rcases hty with e | e
  ·rw [e] at st; exact wpAny_pyIter_striter_ascii st h
  ·rw [e] at st; exact wpAny_pyIter_striter_wide st h
def iStr (te:TE):TI:=fun σ H R=>te σ H fun v H1=>∃ x,v = .str x∧R (Its x) H1
theorem pi_str {X:Cx} {tg e:Expr} {te:TE} (he:PE X e te):PI X tg e (iStr te):=by
 intro pins s σ H R I h
 refine thn (he pins s σ H _ I h) fun v s1 ⟨y,H1,I1,r1,x,ex,q⟩=>?_
 subst ex
 obtain ⟨t,rfl⟩:=r1
 cases ha:x.cps.all (· < 128)
 ·exact wpAny_pyIter_wide ha (pi_one (tk:=s1.toks) I1 _ (turn_str _ x t "str_iterator" (.inr rfl)) ⟨_,Heap.get?_push_size _ rfl,rfl,rfl⟩ q)
 ·exact wpAny_pyIter_ascii ha (pi_one (tk:=s1.toks) I1 _ (turn_str _ x t "str_ascii_iterator" (.inl rfl)) ⟨_,Heap.get?_push_size _ rfl,rfl,rfl⟩ q)
section
variable {prog:Program} {w:World} {A:Around} {E:Value→Shared→Prop} {s:Shared}
theorem iter_keys {d:Addr} {o:Obj} {es:Array DictEntry} {ep:Nat} {Q:Value→Shared→Prop} (hd:(d == sysModules) = false) (ho:s.heap.get? d = some o) (hc:o.ExactDict) (hdat:o.data = .dict es ep)
  (hQ:Q (.ref s.heap.objs.size) { s with heap:=s.heap.push { cls:=.type "dict_keyiterator",data:=.fields #[.ref d,.int 0 0,.int es.size 0,.int ep 0] } }) :
  wpAny (model prog w) A (pyIter (.ref d)) Q E s:=by
 have hT:s.TypeIs (.ref d) "dict":=⟨o,ho,hc.1⟩
 refine wpAny_pyIter_slot hT F.slot_dict_iter (wpAny_call_entry F.slot_dict_iter hT F.entry_dict_iter ?_ (F.args_dict_iter_1 _))
 unfold Builtin.«dict.__iter__»
 refine wpAny_bind ?_
 unfold Builtin.Dict.dictSlotNone
 refine wpAny_bind (wpAny_notOrdered_dict hT ?_)
 show wpAny _ _ (pure (Value.ref d)) _ _ s
 refine wpAny_pure ?_
 show wpAny _ _ (Builtin.Dict.showsAll d >>= _) _ _ s
 unfold Builtin.Dict.showsAll
 rw [if_neg (by rw [hd]; exact Bool.false_ne_true)]
 refine wpAny_bind (wpAny_pure ?_)
 refine wpAny_bind (wpAny_dictEntries ho hdat ?_)
 refine wpAny_bind (wpAny_dictEpoch ho hdat ?_)
 refine wpAny_bind (wpAny_newObj_type (wpAny_pure ⟨_,rfl,"dict_keyiterator",_,⟨_,Heap.get?_push_size _ rfl,rfl⟩,F.slot_dict_keyiterator_next.lookup,?_⟩))
 simpa [rawInt] using hQ
theorem next_key_item {it d:Addr} {i n ep:Nat} {od:Obj} {es:Array DictEntry} {en:DictEntry} {Q:Option Value→Shared→Prop} (hit:s.heap.IsKeyIter it d i n ep) (hod:s.heap.get? d = some od) (hdd:od.data = .dict es ep)
  (hsz:es.size = n) (hx:es[i]? = some en) (hQ:∀ h',h'.IsKeyIter it d (i + 1) n ep→Heap.SameBut it s.heap h'→Q (some en.key) { s with heap:=h' }):wpAny (model prog w) A (pyNext (.ref it)) Q E s:=by
 obtain ⟨o,ho,hc,hd⟩:=id hit
 unfold pyNext
 refine wpAny_bind (wpAny_attempt (wpAny_callSpecial?_slot (name:=Str.ofString "__next__") hit.typeIs F.slot_dict_keyiterator_next
  (wpAny_call_entry F.slot_dict_keyiterator_next hit.typeIs F.entry_dict_keyiterator_next ?_ (F.args_dict_keyiterator_next_1 _))))
 refine wpAny_bind (wpAny_pure ?_)
 refine wpAny_bind ?_
 refine wpAny_bind ?_
 first | refine wpAny_bind (wpAny_typeNameOfWhole_keyiter hit.typeIs (wpAny_pure ?_)) | refine wpAny_bind (wpAny_typeNameOf_keyiter hit.typeIs (wpAny_pure ?_))
 refine wpAny_bind (wpAny_fieldsOf ho hd ?_)
 have hown:Builtin.Dict_items.ownsTuple "dict_keyiterator" = false:=by decide
 simp only [hown,Bool.false_eq_true,if_false]
 show wpAny _ _ (if (Value.ref d == Value.none) = true then _ else _) _ _ s
 rw [if_neg (show ¬ ((Value.ref d == Value.none) = true) from Bool.false_ne_true)]
 refine wpAny_bind (wpAny_pure ?_)
 refine wpAny_bind (wpAny_dictEntries hod hdd ?_)
 rw [if_neg (by rw [hsz]; simp)]
 refine wpAny_bind (wpAny_pure ?_)
 refine wpAny_bind (wpAny_dictEpoch hod hdd ?_)
 rw [if_neg (by simp)]
 refine wpAny_pure ?_
 obtain ⟨hlt',hen⟩:=Array.getElem?_eq_some_iff.mp hx
 simp only [show ¬ ((i:Int) < 0) from by omega,if_false,Int.toNat_natCast,Array.getElem?_eq_getElem hlt']
 refine wpAny_bind ?_
 first | refine wpAny_bind (wpAny_typeNameOfWhole_keyiter hit.typeIs (wpAny_pure ?_)) | refine wpAny_bind (wpAny_typeNameOf_keyiter hit.typeIs (wpAny_pure ?_))
 refine wpAny_bind (wpAny_isOneOf_keyiter hit.typeIs ?_)
 show wpAny _ _ (setField (.ref it) 1 (rawInt ((i:Int) + 1)) >>= _) _ _ s
 refine wpAny_bind (wpAny_setField ho hd (by simp) ?_)
 have hit':(s.heap.update it (Obj.mapFields (·.setIfInBounds 1 (rawInt ((i:Int) + 1))))).IsKeyIter it d (i + 1) n ep :=
  ⟨_,Heap.get?_update_self _ ho (Obj.isFreed_of_fields (Obj.data_mapFields hd _)),(Obj.cls_mapFields ..).trans hc,by rw [Obj.data_mapFields hd]; simp [rawInt]⟩
 refine wpAny_bind (wpAny_holding ?_)
 refine wpAny_bind (wpAny_isOneOf_keyiter (s:={ s with heap:=s.heap.update it (Obj.mapFields (·.setIfInBounds 1 (rawInt ((i:Int) + 1)))) }) hit'.typeIs ?_)
 show wpAny _ _ (pure es[i].key) _ _ _
 rw [hen]
 exact wpAny_pure (wpAny_pure ⟨_,rfl,wpAny_pure (hQ _ hit' (Heap.SameBut.update ..))⟩)
theorem next_key_end {it d:Addr} {i n ep:Nat} {od:Obj} {es:Array DictEntry} {Q:Option Value→Shared→Prop} (hh:A.handled = none) (hit:s.heap.IsKeyIter it d i n ep) (hod:s.heap.get? d = some od) (hdd:od.data = .dict es ep)
  (hsz:es.size = n) (hge:n≤i) (hQ:∀ h',Heap.ExtBut it s.heap h'→Q none { s with heap:=h' }):wpAny (model prog w) A (pyNext (.ref it)) Q E s:=by
 obtain ⟨o,ho,hc,hd⟩:=id hit
 unfold pyNext
 refine wpAny_bind (wpAny_attempt (wpAny_callSpecial?_slot (name:=Str.ofString "__next__") hit.typeIs F.slot_dict_keyiterator_next
  (wpAny_call_entry F.slot_dict_keyiterator_next hit.typeIs F.entry_dict_keyiterator_next ?_ (F.args_dict_keyiterator_next_1 _))))
 refine wpAny_bind (wpAny_pure ?_)
 refine wpAny_bind ?_
 refine wpAny_bind ?_
 first | refine wpAny_bind (wpAny_typeNameOfWhole_keyiter hit.typeIs (wpAny_pure ?_)) | refine wpAny_bind (wpAny_typeNameOf_keyiter hit.typeIs (wpAny_pure ?_))
 refine wpAny_bind (wpAny_fieldsOf ho hd ?_)
 have hown:Builtin.Dict_items.ownsTuple "dict_keyiterator" = false:=by decide
 simp only [hown,Bool.false_eq_true,if_false]
 show wpAny _ _ (if (Value.ref d == Value.none) = true then _ else _) _ _ s
 rw [if_neg (show ¬ ((Value.ref d == Value.none) = true) from Bool.false_ne_true)]
 refine wpAny_bind (wpAny_pure ?_)
 refine wpAny_bind (wpAny_dictEntries hod hdd ?_)
 rw [if_neg (by rw [hsz]; simp)]
 refine wpAny_bind (wpAny_pure ?_)
 refine wpAny_bind (wpAny_dictEpoch hod hdd ?_)
 rw [if_neg (by simp)]
 refine wpAny_pure ?_
 have hge':es.size≤i:=by rw [hsz]; exact hge
 simp only [show ¬ ((i:Int) < 0) from by omega,if_false,Int.toNat_natCast,Array.getElem?_eq_none hge']
 refine wpAny_bind ?_
 first | refine wpAny_bind (wpAny_typeNameOfWhole_keyiter hit.typeIs (wpAny_pure ?_)) | refine wpAny_bind (wpAny_typeNameOf_keyiter hit.typeIs (wpAny_pure ?_))
 show wpAny _ _ (setField (.ref it) 0 .none >>= _) _ _ s
 refine wpAny_bind (wpAny_setField ho hd (by simp) ?_)
 show wpAny _ _ (newExc (.type "StopIteration") [] >>= _) _ _ _
 refine wpAny_bind ?_
 simp only [newExc,newTuple]
 refine wpAny_bind (wpAny_newObj_type ?_ (by size_fits))
 refine wpAny_bind (m:=firstArgMember _ _) (wpAny_of_eq (a:=Value.none) (by first | rfl | (simp only [firstArgMember]; rfl)) ?_)
 refine wpAny_newObj_type ?_ (by size_fits)
 simp only [raiseNew]
 refine wpAny_bind (wpAny_handled ?_)
 rw [show A.in1.handled = none from hh]
 refine wpAny_bind (wpAny_pure (wpAny_throw ?_))
 refine wpAny_bind (wpAny_isInstance (T:="StopIteration") (b:=true) ⟨_,Heap.get?_push_size _ rfl,rfl⟩ isSubtype_stop ?_)
 exact wpAny_pure (hQ _ (((Heap.SameBut.update ..).extBut.push _).push _))
end
theorem paired_get {α β:Type} {G:α→β→Prop} {l₁:List α} {l₂:List β} (h:Paired G l₁ l₂):∀ {i:Nat} {a:α},l₁[i]? = some a→∃ b,l₂[i]? = some b∧G a b:=by
 induction h with
 | nil=>intro i a e; simp at e
 | @cons a b l₁ l₂ r t ih =>
  intro i a' e
  cases i with
  | zero =>
   simp only [List.getElem?_cons_zero,Option.some.injEq] at e
   subst e
   exact ⟨b,rfl,r⟩
  | succ j =>
   simp only [List.getElem?_cons_succ] at e ⊢
   exact ih e
section
variable {X:Cx} {pins:List (Addr × Obj)} {σ:St} {H:Hp} {s:Shared} {d:Addr} {o:Obj}
end
section
variable {P:Program} {w:World} {K:PySem.W.Frag} {tg:Expr} {d:Addr} {o:Obj} {es:Array DictEntry} {ep:Nat}
end
section
variable {X:Cx} {tg e:Expr} {td:TE} {apos cpos:Pos}
end
end L2
section
namespace Bits
open PySem PyProof.Rows
end Bits
end
section
namespace TL
open PySem PySem.Builtin PySem.Builtin.Str PySem.StrLaws
end TL
end
namespace L2
open PySem PySem.Spec PyProof.Rows
theorem strs_of_vals:∀ {ys:List Str} {us:List Value},Vals (ys.map V.str) us→StrsAre us ys
 | [],_,.nil=>.nil
 | y :: ys,_,.cons r t=>by
  obtain ⟨k,rfl⟩:=r
  exact .cons y k (strs_of_vals t)
section
variable {X:Cx} {pins:List (Addr × Obj)} {σ:St} {H:Hp} {s:Shared} {Q:VK}
end
section
variable {X:Cx}
end
section
variable {X:Cx} {o e:Expr} {to te:TE}
end
end L2
namespace L2
open PySem PySem.Spec PyProof.Rows
section
variable {X:Cx}
end
end L2
namespace Att
open PySem PySem.W PySem.Calls PyProof.Rows
section
variable {prog:Program} {w:World} {A:Around} {E:Value→Shared→Prop} {s:Shared} {K:Frag}
end
end Att
namespace L2
open PySem PySem.Spec PyProof.Rows
end L2
namespace L2
open PySem PySem.Spec PyProof.Rows
end L2
namespace L2
open PySem PySem.Spec PyProof.Rows
def defArgs (s:Stmt):Arguments:=match s with
 | .FunctionDef _ a _ _ _ _ _ _ _ _=>a
 | _=>{ posonlyargs:=[],args:=[],vararg:=none,kwonlyargs:=[],kw_defaults:=[],kwarg:=none,defaults:=[] }
def defBody (s:Stmt):List Stmt:=match s with
 | .FunctionDef _ _ b _ _ _ _ _ _ _=>b
 | _=>[]
def defScope (s:Stmt):Scope:=match s with
 | .FunctionDef _ _ _ _ _ _ sc _ _ _=>sc
 | _=>{ kind:=.function,names:=[],isGenerator:=false,isCoroutine:=false }
abbrev CX0:CXT:=fun _ _ _ _ _ _=>False
abbrev E0:XK:=fun _ _ _=>False
theorem pass0 {X:Cx}:Passes CX0 X E0:=fun _ _ _ _ _ _ _ h=>h.elim
structure Fun (K:PySem.W.Frag) (x qual:Str) (st:Stmt) (f:Addr) (fd:FuncData):Prop where
 ex:∃ (oc:Value) (od:Option Addr) (kV doc pm:Value) (an:Option Addr) (cdv ct:Value) (osl:Array (Option Value)),
  fd = PySem.W.fnOf x qual (defArgs st) (defBody st) (defScope st) .none kV doc pm an cdv ct∧K.lookup f = some ⟨oc,od,.func fd,osl⟩∧PySem.W.codeIn K cdv qual = true
 kp:PySem.W.keepIn K (.ref f) = true
section
variable {P:Program} {w:World} {K:PySem.W.Frag} {mg:Str→Option Value} {base:Heap}
theorem Fun.ok {x qual:Str} {st:Stmt} {f:Addr} {fd:FuncData} {N ps:List Str} {k:Nat} {sp:Sp} (F:Fun K x qual st f fd) (S:FnScope N ps (defScope st)) (len:∀ vs H Q E,sp vs H Q E→vs.length = ps.length)
  (hbody:∀ (cdv:Value) (A:Around) (outer:List Env) (s:Shared) (H:Hp) (vs:List V) (Q:VK) (E:XK),Room k (A.deeper (envOfC qual (defScope st) s.heap.objs.size f cdv))→sp vs H Q E →
   ∃ t,PSs (cxOf CX0 P w K mg base N qual (defScope st) f cdv A outer s H E).nox (defBody st) t∧t { nx:=fun _ H'=>Q .non H',rt:=Q } (start N vs) H):FnOk P w K mg base CX0 (k + 1) f fd ps sp:=by
 obtain ⟨oc,od,kV,doc,pm,an,cdv,ct,osl,rfl,lk,hcd⟩:=F.ex
 refine fn_of lk hcd S len fun A outer s H vs Q E hr hsp=>?_
 obtain ⟨t,h,q⟩:=hbody cdv A outer s H vs Q E hr hsp
 exact ⟨t,h.nox,q⟩
theorem Fun.binds {x qual:Str} {st:Stmt} {f:Addr} {fd:FuncData} {ps:List Str} (F:Fun K x qual st f fd)
  (h:∀ (kV doc pm:Value) (an:Option Addr) (cdv ct:Value) (us:List Value),us.length = ps.length→bindArgs (PySem.W.fnOf x qual (defArgs st) (defBody st) (defScope st) .none kV doc pm an cdv ct) ⟨us,[]⟩ = pure (ps.zip us)):Binds K fd ps []:=by
 obtain ⟨oc,od,kV,doc,pm,an,cdv,ct,osl,rfl,lk,hcd⟩:=F.ex
 exact .all (h kV doc pm an cdv ct)
theorem fun_mk {x qual:Str} {st:Stmt} {f:Addr} {oc:Value} {od an:Option Addr} {osl:Array (Option Value)} {kV doc pm cdv ct:Value} (l:K.lookup f = some ⟨oc,od,.func (PySem.W.fnOf x qual (defArgs st) (defBody st) (defScope st) .none kV doc pm an cdv ct),osl⟩)
  (c:PySem.W.codeIn K cdv qual = true) (k:PySem.W.keepIn K (.ref f) = true):Fun K x qual st f (PySem.W.fnOf x qual (defArgs st) (defBody st) (defScope st) .none kV doc pm an cdv ct):=⟨⟨oc,od,kV,doc,pm,an,cdv,ct,osl,rfl,l,c⟩,k⟩
end
theorem hu_of {A:Around} {k:Nat} (hr:Room k A):A.units + 1 < cLine:=Nat.lt_of_le_of_lt (Nat.add_le_add_left (by decide:1≤64) _) hr.units
section
variable {X:Cx}
theorem pv (i:Nat) {x:Str} {pos:Pos} (hN:X.N[i]? = some x:=by rfl) (hv:Vis X.env.scope x:=by first | exact Or.inl rfl | exact Or.inr (Or.inl rfl) | exact Or.inr (Or.inr rfl)) (hd:(x == ("__debug__":Str)) = false:=by decide)
  (hcd:(x == ("__classdict__":Str)) = false:=by decide):PE X (.Name x pos) (tVar i):=pe_var hN hv hd hcd
theorem call_lenD:CallR X (.builtin "len") (fun xs H Q=>∃ a kvs,xs = [V.ref a]∧H a = some (.dK kvs)∧Q (.int kvs.length) H):=by
 intro pins s σ H xs us Q I r h
 obtain ⟨a,kvs,rfl,ha,q⟩:=h
 obtain ⟨u,rfl,ru⟩:=vals1 r
 cases ru
 exact d_len I (.inl ha) fun t s' I'=>⟨.int kvs.length,H,I',⟨t,rfl⟩,q⟩
end
theorem iteF {A B:Prop} (h:B):if false = true then A else B:=by
 rw [if_neg Bool.false_ne_true]
 exact h
theorem iteT {A B:Prop} (h:A):if true = true then A else B:=by
 rw [if_pos rfl]
 exact h
theorem ite2 {c A B:Prop} [Decidable c] (h1:c→A) (h2:¬ c→B):if c then A else B:=by
 by_cases h:c
 ·rw [if_pos h]
  exact h1 h
 ·rw [if_neg h]
  exact h2 h
def Same (H H':Hp):Prop:=∀ b o,H b = some o→H' b = some o
theorem Same.refl (H:Hp):Same H H:=fun _ _ h=>h
theorem Same.trans {H H1 H2:Hp} (a:Same H H1) (b:Same H1 H2):Same H H2:=fun c o h=>b c o (a c o h)
theorem Same.free {H H':Hp} (e:Same H H') {l:Addr} (h:H' l = Option.none):H l = Option.none:=by
 cases q:H l with
 | none=>rfl
 | some o =>
  rw [e l o q] at h
  cases h
theorem Same.seq {K:PySem.W.Frag} {H H':Hp} {a:Addr} {xs:List V} (e:Same H H') (h:SqL K H a xs):SqL K H' a xs:=by
 rcases h with (h | ⟨o,h⟩) | h
 ·exact .inl (.inl (e _ _ h))
 ·exact .inl (.inr ⟨o,e _ _ h⟩)
 ·exact .inr h
section
variable {κ:Type} [DecidableEq κ]
end
theorem at_of {xs:List V} {z:Int} {j:Nat} {v:V} (e:z = (j:Int)) (h:xs[j]? = some v):atI xs z = some v:=by
 rw [e]
 exact atI_nat h
end L2
section
set_option maxHeartbeats 2000000
namespace L2
open PySem PySem.Spec PyProof.Rows
open PySem.W (WData Codec OpenSpec Well WellAll ReadsW ReadsAllW)
mutual
inductive Dw (K:PySem.W.Frag) (H:Hp):V→WData→Prop
 | non:Dw K H .non .none
 | bl (b:Bool):Dw K H (.bl b) (.bool b)
 | int (i:Int):Dw K H (.int i) (.int i)
 | str (x:Str):Dw K H (.str x) (.str x)
 | byt (b:Array UInt8):Dw K H (.byt b) (.bytes b.toList)
 | lst {a:Addr} {xs:List V} {ds:List WData}:SqL K H a xs→DwAll K H xs ds→Dw K H (.ref a) (.list ds)
 | tup {a:Addr} {xs:List V} {ds:List WData}:SqT K H a xs→DwAll K H xs ds→Dw K H (.ref a) (.tuple ds)
inductive DwAll (K:PySem.W.Frag) (H:Hp):List V→List WData→Prop
 | nil:DwAll K H [] []
 | cons {v:V} {vs:List V} {d:WData} {ds:List WData}:Dw K H v d→DwAll K H vs ds→DwAll K H (v :: vs) (d :: ds)
end
theorem dw_ints {K:PySem.W.Frag} {H:Hp}:∀ ns:List Int,DwAll K H (ns.map V.int) (ns.map WData.int)
 | []=>.nil
 | n :: r=>.cons (.int n) (dw_ints r)
theorem ints_dw {K:PySem.W.Frag} {H:Hp}:∀ (ns:List Int) (xs:List V),DwAll K H xs (ns.map WData.int)→xs = ns.map V.int
 | [],xs,h=>by
  cases h
  rfl
 | n :: r,xs,h=>by
  cases h with
  | cons h1 h2 =>
   cases h1
   rw [ints_dw r _ h2] <;> rfl
section
variable {P:Program} {w:World} {K:PySem.W.Frag} {H:Hp} {h:Heap} {R:PySem.W.WRecords} {cl:Str→Option Addr}
theorem sqL_at {a:Addr} {xs:List V} (hok:HOk P w H h) (KX:K.In h) (q:SqL K H a xs):∃ (its:List Value) (o:Obj) (n:Nat),Vals xs its∧h.get? a = some o∧o.cls = .type "list"∧o.data = .seq its.toArray n:=by
 rcases q with q | ⟨o,its,n,e,hc,_,hd,_,hv⟩
 ·obtain ⟨_,its,n,hv,e⟩:=(show ObjOk P w H h a (.lst xs) from q.ok hok)
  exact ⟨its,_,n,hv,e,rfl,rfl⟩
 ·exact ⟨its.toList,o,n,hv,KX _ _ e,hc,by simp [hd]⟩
theorem sqT_at {a:Addr} {xs:List V} (hok:HOk P w H h) (KX:K.In h) (q:SqT K H a xs):∃ (its:List Value) (o:Obj) (n:Nat),Vals xs its∧h.get? a = some o∧o.cls = .type "tuple"∧o.data = .seq its.toArray n:=by
 rcases q with q | ⟨o,its,n,e,hc,hd,_,hv⟩
 ·obtain ⟨_,its,hv,o,e,hc,n,hd⟩:=(show ObjOk P w H h a (.tup xs) from q.ok hok)
  exact ⟨its,o,n,hv,e,hc,hd⟩
 ·exact ⟨its.toList,o,n,hv,KX _ _ e,hc,by simp [hd]⟩
mutual
theorem Dw.reads (hok:HOk P w H h) (KX:K.In h):∀ (d:WData) (v:V) (u:Value),Dw K H v d→RelV v u→∃ as,ReadsW R cl h u d as
 | .none,_,_,x,r=>by
  cases x
  cases r
  exact ⟨_,ReadsW.none⟩
 | .bool b,_,_,x,r=>by
  cases x
  cases r
  exact ⟨_,ReadsW.bool b⟩
 | .int i,_,_,x,r=>by
  cases x
  obtain ⟨t,rfl⟩:=r
  exact ⟨_,ReadsW.int i t⟩
 | .str s,_,_,x,r=>by
  cases x
  obtain ⟨t,rfl⟩:=r
  exact ⟨_,ReadsW.str s t⟩
 | .bytes b,_,_,x,r=>by
  cases x
  obtain ⟨t,rfl⟩:=r
  exact ⟨_,ReadsW.bytes _ t⟩
 | .list ds,_,_,x,r=>by
  cases x with
  | lst hs ha =>
   cases r
   obtain ⟨its,o,n,rv,ho,hc,hd⟩:=sqL_at hok KX hs
   obtain ⟨as,hr⟩:=Dw.readsAll hok KX ds _ its ha rv
   exact ⟨_,ReadsW.list ho hc hd hr⟩
 | .tuple ds,_,_,x,r=>by
  cases x with
  | tup hs ha =>
   cases r
   obtain ⟨its,o,n,rv,ho,hc,hd⟩:=sqT_at hok KX hs
   obtain ⟨as,hr⟩:=Dw.readsAll hok KX ds _ its ha rv
   exact ⟨_,ReadsW.tuple ho hc hd hr⟩
 | .float _,_,_,x,_=>by cases x
 | .dict _,_,_,x,_=>by cases x
 | .bytearray _,_,_,x,_=>by cases x
 | .set _,_,_,x,_=>by cases x
 | .frozenset _,_,_,x,_=>by cases x
 | .obj _ _,_,_,x,_=>by cases x
theorem Dw.readsAll (hok:HOk P w H h) (KX:K.In h):∀ (ds:List WData) (vs:List V) (us:List Value),DwAll K H vs ds→Vals vs us→∃ as,ReadsAllW R cl h us ds as
 | [],_,_,x,r=>by
  cases x
  cases r
  exact ⟨_,ReadsAllW.nil⟩
 | d :: ds,_,_,x,r=>by
  cases x with
  | cons h1 h2 =>
   cases r with
   | cons r1 r2 =>
    obtain ⟨as,q1⟩:=Dw.reads hok KX d _ _ h1 r1
    obtain ⟨bs,q2⟩:=Dw.readsAll hok KX ds _ _ h2 r2
    exact ⟨_,ReadsAllW.cons q1 q2⟩
end
end
mutual
def plW:WData→Bool
 | .none=>true
 | .bool _=>true
 | .int _=>true
 | .str _=>true
 | .bytes _=>true
 | .list xs=>plWs xs
 | .tuple xs=>plWs xs
 | _=>false
def plWs:List WData→Bool
 | []=>true
 | x :: r=>plW x && plWs r
end
theorem plWs_map {α:Type} {f:α→WData} (h:∀ a,plW (f a) = true):∀ l:List α,plWs (l.map f) = true
 | []=>rfl
 | x :: r=>by
  show (plW (f x) && plWs (r.map f)) = true
  rw [h x,plWs_map h r] <;> rfl
theorem pl_enc:∀ (c:Codec) (a:c.denote),plW (c.enc a) = true
 | .unit,_=>rfl
 | .bool,_=>rfl
 | .int _ _,_=>rfl
 | .nat _ _,_=>rfl
 | .u8,_=>rfl
 | .bytes _ _,_=>rfl
 | .text _ _ _ _,_=>rfl
 | .list _ _ c,a=>plWs_map (fun x=>pl_enc c x) a
 | .pair c d,a=>by
  show (plW (c.enc a.1) && (plW (d.enc a.2) && true)) = true
  rw [pl_enc c a.1,pl_enc d a.2] <;> rfl
 | .triple c d e,a=>by
  show (plW (c.enc a.1) && (plW (d.enc a.2.1) && (plW (e.enc a.2.2) && true))) = true
  rw [pl_enc c a.1,pl_enc d a.2.1,pl_enc e a.2.2] <;> rfl
 | .option c,none=>rfl
 | .option c,some x=>pl_enc c x
theorem pl_encAll:∀ (cs:List Codec) (a:Codec.denoteAll cs),plWs (Codec.encAll cs a) = true
 | [],_=>rfl
 | c :: cs,a=>by
  show (plW (c.enc a.1) && plWs (Codec.encAll cs a.2)) = true
  rw [pl_enc c a.1,pl_encAll cs a.2] <;> rfl
theorem weight_mem:∀ {xs:List WData} {d:WData},d ∈ xs→d.weight≤WData.weightAll xs
 | [],d,h=>absurd h (by simp)
 | x :: r,d,h=>by
  show d.weight≤x.weight + 1 + WData.weightAll r
  rcases List.mem_cons.mp h with e | m
  ·rw [e]
   omega
  ·have z:=weight_mem m
   omega
def toV:Value→V
 | .none=>.non
 | .bool b=>.bl b
 | .int i _=>.int i
 | .str x _=>.str x
 | .bytes b _=>.byt b
 | .ref a=>.ref a
 | _=>.non
def OkU (A:List Addr):Value→Prop
 | .none=>True
 | .bool _=>True
 | .int _ _=>True
 | .str _ _=>True
 | .bytes _ _=>True
 | .ref a=>a ∈ A
 | _=>False
theorem OkU.mono {A B:List Addr} (h:∀ a ∈ A,a ∈ B):∀ {u:Value},OkU A u→OkU B u:=fun {u} x=>by
 cases u with
 | ref a=>exact h a x
 | none=>trivial
 | bool b=>trivial
 | int i t=>trivial
 | str s t=>trivial
 | bytes b t=>trivial
 | _=>exact False.elim x
theorem relV_toV {A:List Addr} {u:Value} (x:OkU A u):RelV (toV u) u:=by
 cases u with
 | ref a=>rfl
 | none=>rfl
 | bool b=>rfl
 | int i t=>exact ⟨t,rfl⟩
 | str s t=>exact ⟨t,rfl⟩
 | bytes b t=>exact ⟨t,rfl⟩
 | _=>exact False.elim x
theorem vals_toV {A:List Addr}:∀ {vs:List Value},(∀ u ∈ vs,OkU A u)→Vals (vs.map toV) vs
 | [],_=>.nil
 | u :: r,h=>.cons (relV_toV (h u (List.mem_cons_self ..))) (vals_toV fun x hx=>h x (List.mem_cons_of_mem _ hx))
def ArgOb (h:Heap) (A:List Addr) (a:Addr):Prop:=∃ vs:List Value,vs.length≤sizeLine∧(∀ u ∈ vs,OkU A u) ∧
 (h.get? a = some { cls:=.type "list",data:=.seq vs.toArray }∨h.get? a = some { cls:=.type "tuple",data:=.seq vs.toArray })
theorem ArgOb.mono {h:Heap} {A B:List Addr} {a:Addr} (k:∀ a ∈ A,a ∈ B) (x:ArgOb h A a):ArgOb h B a:=by
 obtain ⟨vs,h1,h2,h3⟩:=x
 exact ⟨vs,h1,fun u hu=>(h2 u hu).mono k,h3⟩
theorem wellAll_len {P:Params} {h:Heap}:∀ {vs:List Value} {ds:List WData},WellAll P h vs ds→vs.length = ds.length
 | _,_,.nil=>rfl
 | _,_,.cons _ b=>by
  show _ + 1 = _ + 1
  rw [wellAll_len b]
theorem well_list {P:Params} {h:Heap} {v:Value} {ds:List WData} (x:Well P h v (.list ds)):∃ (a:Addr) (vs:List Value),v = .ref a∧h.get? a = some { cls:=.type "list",data:=.seq vs.toArray }∧WellAll P h vs ds:=by
 cases x with
 | list ho hall=>exact ⟨_,_,rfl,ho,hall⟩
theorem well_tuple {P:Params} {h:Heap} {v:Value} {ds:List WData} (x:Well P h v (.tuple ds)):∃ (a:Addr) (vs:List Value),v = .ref a∧h.get? a = some { cls:=.type "tuple",data:=.seq vs.toArray }∧WellAll P h vs ds:=by
 cases x with
 | tuple ho hall=>exact ⟨_,_,rfl,ho,hall⟩
theorem well_cons {P:Params} {h:Heap} {us:List Value} {d:WData} {ds:List WData} (x:WellAll P h us (d :: ds)):∃ (v:Value) (vs:List Value),us = v :: vs∧Well P h v d∧WellAll P h vs ds:=by
 cases x with
 | cons a b=>exact ⟨_,_,rfl,a,b⟩
theorem line_of {n:Nat} (h:n≤1048576):n≤sizeLine:=Nat.le_trans h (by decide)
section
variable {P:Params} {h:Heap}
mutual
theorem area_one:∀ (d:WData) (v:Value),Well P h v d→plW d = true→d.weight≤1048576→∃ A:List Addr,OkU A v∧∀ a ∈ A,ArgOb h A a
 | .none,_,x,_,_=>by
  cases x
  exact ⟨[],trivial,fun a m=>absurd m (by simp)⟩
 | .bool b,_,x,_,_=>by
  cases x
  exact ⟨[],trivial,fun a m=>absurd m (by simp)⟩
 | .int i,_,x,_,_=>by
  cases x
  exact ⟨[],trivial,fun a m=>absurd m (by simp)⟩
 | .str s,_,x,_,_=>by
  cases x
  exact ⟨[],trivial,fun a m=>absurd m (by simp)⟩
 | .bytes b,_,x,_,_=>by
  cases x
  exact ⟨[],trivial,fun a m=>absurd m (by simp)⟩
 | .list ds,_,x,p,z=>by
  obtain ⟨a,vs,rfl,ho,hall⟩:=well_list x
  have z2:WData.weightAll ds≤1048576:=z
  obtain ⟨A,h1,h2⟩:=area_all ds _ hall p fun d hd=>Nat.le_trans (weight_mem hd) z2
  have k:∀ b ∈ A,b ∈ a :: A:=fun b hb=>List.mem_cons_of_mem _ hb
  refine ⟨a :: A,List.mem_cons_self ..,fun b hb=>?_⟩
  rcases List.mem_cons.mp hb with e | m
  ·rw [e]
   exact ⟨vs,line_of (by rw [wellAll_len hall]; exact Nat.le_trans (PySem.W.length_le_weightAllW ds) z2),fun u hu=>(h1 u hu).mono k,.inl ho⟩
  ·exact (h2 b m).mono k
 | .tuple ds,_,x,p,z=>by
  obtain ⟨a,vs,rfl,ho,hall⟩:=well_tuple x
  have z2:WData.weightAll ds≤1048576:=z
  obtain ⟨A,h1,h2⟩:=area_all ds _ hall p fun d hd=>Nat.le_trans (weight_mem hd) z2
  have k:∀ b ∈ A,b ∈ a :: A:=fun b hb=>List.mem_cons_of_mem _ hb
  refine ⟨a :: A,List.mem_cons_self ..,fun b hb=>?_⟩
  rcases List.mem_cons.mp hb with e | m
  ·rw [e]
   exact ⟨vs,line_of (by rw [wellAll_len hall]; exact Nat.le_trans (PySem.W.length_le_weightAllW ds) z2),fun u hu=>(h1 u hu).mono k,.inr ho⟩
  ·exact (h2 b m).mono k
 | .float _,_,_,p,_=>Bool.noConfusion (show false = true from p)
 | .dict _,_,_,p,_=>Bool.noConfusion (show false = true from p)
 | .bytearray _,_,_,p,_=>Bool.noConfusion (show false = true from p)
 | .set _,_,_,p,_=>Bool.noConfusion (show false = true from p)
 | .frozenset _,_,_,p,_=>Bool.noConfusion (show false = true from p)
 | .obj _ _,_,_,p,_=>Bool.noConfusion (show false = true from p)
theorem area_all:∀ (ds:List WData) (vs:List Value),WellAll P h vs ds→plWs ds = true→(∀ d ∈ ds,d.weight≤1048576)→∃ A:List Addr,(∀ u ∈ vs,OkU A u)∧∀ a ∈ A,ArgOb h A a
 | [],_,x,_,_=>by
  cases x
  exact ⟨[],fun u m=>absurd m (by simp),fun a m=>absurd m (by simp)⟩
 | d :: ds,_,x,p,z=>by
  obtain ⟨v,vs,rfl,x1,x2⟩:=well_cons x
  have q:plW d = true∧plWs ds = true:=Bool.and_eq_true_iff.mp p
  obtain ⟨A,a1,a2⟩:=area_one d v x1 q.1 (z d (List.mem_cons_self ..))
  obtain ⟨B,b1,b2⟩:=area_all ds vs x2 q.2 fun e he=>z e (List.mem_cons_of_mem _ he)
  have kA:∀ b ∈ A,b ∈ A ++ B:=fun b hb=>List.mem_append.mpr (.inl hb)
  have kB:∀ b ∈ B,b ∈ A ++ B:=fun b hb=>List.mem_append.mpr (.inr hb)
  refine ⟨A ++ B,fun u hu=>?_,fun b hb=>?_⟩
  ·rcases List.mem_cons.mp hu with e | m
   ·rw [e]
    exact a1.mono kA
   ·exact (b1 u m).mono kB
  ·rcases List.mem_append.mp hb with m | m
   ·exact (a2 b m).mono kA
   ·exact (b2 b m).mono kB
end
end
def hoOf (o:Obj):Option HO:=match o.data with
 | .seq vs _=>if (o.cls == Value.type "list") = true then some (.frz o (.lst (vs.toList.map toV))) else some (.frz o (.tup (vs.toList.map toV)))
 | _=>none
def argH (K:PySem.W.Frag) (h:Heap) (A:List Addr):Hp:=fun b=>if b ∈ A then (if (K.lookup b).isNone = true then (h.get? b).bind hoOf else none) else none
def OnlyF (H:Hp):Prop:=∀ b,H b = none∨∃ o u,H b = some (.frz o u)
theorem hoOf_lst (vs:List Value):hoOf { cls:=.type "list",data:=.seq vs.toArray } = some (.frz { cls:=.type "list",data:=.seq vs.toArray } (.lst (vs.map toV))):=by
 show (if (Value.type "list" == Value.type "list") = true then some (HO.frz { cls:=.type "list",data:=.seq vs.toArray } (.lst (vs.toArray.toList.map toV))) else some (HO.frz { cls:=.type "list",data:=.seq vs.toArray } (.tup (vs.toArray.toList.map toV)))) = _
 rw [if_pos (beq_self_eq_true _)]
theorem hoOf_tup (vs:List Value):hoOf { cls:=.type "tuple",data:=.seq vs.toArray } = some (.frz { cls:=.type "tuple",data:=.seq vs.toArray } (.tup (vs.map toV))):=by
 show (if (Value.type "tuple" == Value.type "list") = true then some (HO.frz { cls:=.type "tuple",data:=.seq vs.toArray } (.lst (vs.toArray.toList.map toV))) else some (HO.frz { cls:=.type "tuple",data:=.seq vs.toArray } (.tup (vs.toArray.toList.map toV)))) = _
 rw [if_neg (by decide)]
section
variable {P:Program} {w:World} {K:PySem.W.Frag} {h:Heap} {A:List Addr}
theorem argH_at {b:Addr} {o:Obj} (hb:b ∈ A) (hk:K.lookup b = none) (e:h.get? b = some o):argH K h A b = hoOf o:=by
 unfold argH
 rw [if_pos hb,hk,if_pos (show (none:Option Obj).isNone = true from rfl),e] <;> rfl
theorem of_argH {b:Addr} {u:HO} (q:argH K h A b = some u):b ∈ A∧K.lookup b = none:=by
 unfold argH at q
 by_cases hb:b ∈ A
 ·rw [if_pos hb] at q
  cases hk:K.lookup b with
  | none=>exact ⟨hb,rfl⟩
  | some o =>
   rw [hk,if_neg (by simp)] at q
   cases q
 ·rw [if_neg hb] at q
  cases q
theorem argH_is (ar:∀ a ∈ A,ArgOb h A a) {b:Addr} {u:HO} (q:argH K h A b = some u):K.lookup b = none∧∃ vs:List Value,vs.length≤sizeLine∧(∀ u ∈ vs,OkU A u) ∧
    ((h.get? b = some { cls:=.type "list",data:=.seq vs.toArray }∧u = .frz { cls:=.type "list",data:=.seq vs.toArray } (.lst (vs.map toV))) ∨
     (h.get? b = some { cls:=.type "tuple",data:=.seq vs.toArray }∧u = .frz { cls:=.type "tuple",data:=.seq vs.toArray } (.tup (vs.map toV)))):=by
  obtain ⟨hb,hk⟩:=of_argH q
  obtain ⟨vs,h1,h2,h3⟩:=ar b hb
  refine ⟨hk,vs,h1,h2,?_⟩
  rcases h3 with e | e
  · rw [argH_at hb hk e,hoOf_lst] at q
    exact .inl ⟨e,(Option.some.inj q).symm⟩
  · rw [argH_at hb hk e,hoOf_tup] at q
    exact .inr ⟨e,(Option.some.inj q).symm⟩
theorem argH_only (ar:∀ a ∈ A,ArgOb h A a):OnlyF (argH K h A):=fun b=>by
 cases q:argH K h A b with
 | none=>exact .inl rfl
 | some u =>
  obtain ⟨_,vs,_,_,⟨_,e⟩ | ⟨_,e⟩⟩:=argH_is ar q
  ·exact .inr ⟨_,_,by rw [e]⟩
  ·exact .inr ⟨_,_,by rw [e]⟩
theorem argH_ok (ar:∀ a ∈ A,ArgOb h A a):HOk P w (argH K h A) h:=fun b u q=>by
 obtain ⟨_,vs,h1,h2,⟨e,rfl⟩ | ⟨e,rfl⟩⟩:=argH_is ar q
 ·exact ⟨e,by rw [List.length_map]; exact h1,vs,_,vals_toV h2,e⟩
 ·exact ⟨e,by rw [List.length_map]; exact h1,vs,vals_toV h2,_,e,rfl,_,rfl⟩
theorem seq_inj {c c':Value} {vs us:List Value} (e:(some { cls:=c,data:=.seq vs.toArray }:Option Obj) = some { cls:=c',data:=.seq us.toArray }):c = c'∧vs = us:=by
 have e1:=Option.some.inj e
 have e2:c = c':=congrArg Obj.cls e1
 have e3:Data.seq vs.toArray = Data.seq us.toArray:=congrArg Obj.data e1
 injection e3 with e4
 refine ⟨e2,?_⟩
 have e5:=congrArg Array.toList e4
 simpa using e5
theorem argL (KX:K.In h) (ar:∀ a ∈ A,ArgOb h A a) {a:Addr} {vs:List Value} (ha:a ∈ A) (e:h.get? a = some { cls:=.type "list",data:=.seq vs.toArray }):(∀ u ∈ vs,OkU A u)∧SqL K (argH K h A) a (vs.map toV):=by
 obtain ⟨us,h1,h2,h3⟩:=ar a ha
 have hu:us = vs:=by
  rcases h3 with q | q
  ·rw [e] at q
   exact (seq_inj q).2.symm
  ·rw [e] at q
   exact absurd (Value.type.inj (seq_inj q).1) (by decide)
 subst hu
 refine ⟨h2,?_⟩
 cases hk:K.lookup a with
 | none=>exact .inl (.inr ⟨_,by rw [argH_at ha hk e,hoOf_lst]⟩)
 | some o =>
  have e2:=KX a o hk
  rw [e] at e2
  obtain rfl:=Option.some.inj e2
  exact .inr ⟨_,us.toArray,_,hk,rfl,rfl,rfl,by rw [List.size_toArray]; exact h1,by simpa using vals_toV h2⟩
theorem argT (KX:K.In h) (ar:∀ a ∈ A,ArgOb h A a) {a:Addr} {vs:List Value} (ha:a ∈ A) (e:h.get? a = some { cls:=.type "tuple",data:=.seq vs.toArray }):(∀ u ∈ vs,OkU A u)∧SqT K (argH K h A) a (vs.map toV):=by
 obtain ⟨us,h1,h2,h3⟩:=ar a ha
 have hu:us = vs:=by
  rcases h3 with q | q
  ·rw [e] at q
   exact absurd (Value.type.inj (seq_inj q).1) (by decide)
  ·rw [e] at q
   exact (seq_inj q).2.symm
 subst hu
 refine ⟨h2,?_⟩
 cases hk:K.lookup a with
 | none=>exact .inl (.inr ⟨_,by rw [argH_at ha hk e,hoOf_tup]⟩)
 | some o =>
  have e2:=KX a o hk
  rw [e] at e2
  obtain rfl:=Option.some.inj e2
  exact .inr ⟨_,us.toArray,_,hk,rfl,rfl,by rw [List.size_toArray]; exact h1,by simpa using vals_toV h2⟩
mutual
theorem dw_one {Pm:Params} (KX:K.In h) (ar:∀ a ∈ A,ArgOb h A a):∀ (d:WData) (v:Value),Well Pm h v d→plW d = true→OkU A v→Dw K (argH K h A) (toV v) d
 | .none,_,x,_,_=>by
  cases x
  exact .non
 | .bool b,_,x,_,_=>by
  cases x
  exact .bl b
 | .int i,_,x,_,_=>by
  cases x
  exact .int i
 | .str s,_,x,_,_=>by
  cases x
  exact .str s
 | .bytes b,_,x,_,_=>by
  cases x
  have z:=Dw.byt (K:=K) (H:=argH K h A) b.toArray
  exact z
 | .list ds,_,x,p,hu=>by
  obtain ⟨a,vs,rfl,ho,hall⟩:=well_list x
  obtain ⟨h2,hs⟩:=argL KX ar hu ho
  exact .lst hs (dw_all KX ar ds _ hall p h2)
 | .tuple ds,_,x,p,hu=>by
  obtain ⟨a,vs,rfl,ho,hall⟩:=well_tuple x
  obtain ⟨h2,hs⟩:=argT KX ar hu ho
  exact .tup hs (dw_all KX ar ds _ hall p h2)
 | .float _,_,_,p,_=>Bool.noConfusion (show false = true from p)
 | .dict _,_,_,p,_=>Bool.noConfusion (show false = true from p)
 | .bytearray _,_,_,p,_=>Bool.noConfusion (show false = true from p)
 | .set _,_,_,p,_=>Bool.noConfusion (show false = true from p)
 | .frozenset _,_,_,p,_=>Bool.noConfusion (show false = true from p)
 | .obj _ _,_,_,p,_=>Bool.noConfusion (show false = true from p)
theorem dw_all {Pm:Params} (KX:K.In h) (ar:∀ a ∈ A,ArgOb h A a):∀ (ds:List WData) (vs:List Value),WellAll Pm h vs ds→plWs ds = true→(∀ u ∈ vs,OkU A u)→DwAll K (argH K h A) (vs.map toV) ds
 | [],_,x,_,_=>by
  cases x
  exact .nil
 | d :: ds,_,x,p,hu=>by
  obtain ⟨v,vs,rfl,x1,x2⟩:=well_cons x
  have q:plW d = true∧plWs ds = true:=Bool.and_eq_true_iff.mp p
  exact .cons (dw_one KX ar d v x1 q.1 (hu _ (List.mem_cons_self ..))) (dw_all KX ar ds vs x2 q.2 fun u m=>hu u (List.mem_cons_of_mem _ m))
end
end
theorem spec_call {P:Program} {w:World} {K:PySem.W.Frag} {mg mb:Str→Option Value} {CX:CXT} {k:Nat} {fa:Addr} {fd:FuncData} {ps:List Str} {sp:Sp} {s₁:Shared} {vals:List Value} {ds:List WData} {R:PySem.W.WRecords} {cl:Str→Option Addr} {d0:WData}
  (KX:K.In s₁.heap) (hns:s₁.heap.Ns mainGlobals mg) (hb:s₁.heap.Ns builtinsNs mb) (hbb:∀ x:Str,x≠"__name__"→mb x = bootBuiltins x) (hlim:s₁.heap.NoLimit) (hg:s₁.gens = #[])
  (hwl:WellAll w.params s₁.heap vals ds) (hpl:plWs ds = true) (hwt:∀ d ∈ ds,d.weight≤1048576) (hr:Room k callerA)
  (F:∀ base:Heap,K.In base→base.Ns mainGlobals mg→FnOk P w K mg base CX k fa fd ps sp) (hbind:∀ (s:Shared) (us:List Value),us.length = ps.length→BindsTo s fd ⟨us,[]⟩ (ps.zip us)) (hlen:ds.length = ps.length)
  (hsp:∀ (H:Hp) (xs:List V),OnlyF H→DwAll K H xs ds→sp xs H (fun v H'=>Dw K H' v d0) fun _ _ _=>False)
  (hCX:∀ H e s',CX [] H s₁ (fun _ _ _=>False) e s'→False) :
  codeAny (model P w) callerA (.call (.ref fa) ⟨vals,[]⟩) (fun r s'=>∃ u as,r = .ok (.ret u)∧ReadsW R cl s'.heap u d0 as∧OldK s₁.heap s'.heap∧s'.os = s₁.os∧AllBare s'.gens) s₁:=by
 obtain ⟨A,ho,ar⟩:=area_all ds vals hwl hpl hwt
 have hO:OnlyF (argH K s₁.heap A):=argH_only ar
 have hok:HOk P w (argH K s₁.heap A) s₁.heap:=argH_ok ar
 have hS:=dw_all KX ar ds vals hwl hpl ho
 have hV:=vals_toV ho
 have hK:∀ b u,argH K s₁.heap A b = some u→K.lookup b = none:=fun b u q=>(argH_is ar q).1
 have noA:∀ {b:Addr} {o:Obj} {es:Array DictEntry} {ep:Nat},s₁.heap.get? b = some o→o.data = .dict es ep→argH K s₁.heap A b = none:=fun {b o es ep} e d=>by
  cases q:argH K s₁.heap A b with
  | none=>rfl
  | some u =>
   obtain ⟨_,vs,_,_,⟨e2,_⟩ | ⟨e2,_⟩⟩:=argH_is ar q
   ·rw [e2] at e
    cases e
    have d':Data.seq vs.toArray _ = Data.dict es ep:=d
    cases d'
   ·rw [e2] at e
    cases e
    have d':Data.seq vs.toArray _ = Data.dict es ep:=d
    cases d'
 generalize argH K s₁.heap A = H at hO hok hS hK noA
 have base_of:∀ {b:Addr} {o:Obj},s₁.heap.get? b = some o→H b = none→(hidT s₁.heap H).get? b = some o:=fun e n=>hidT_get e n
 have nsK:∀ {b:Addr} {m:Str→Option Value},s₁.heap.Ns b m→(hidT s₁.heap H).Ns b m:=fun {b m} ⟨o,es,ep,e,d,r⟩=>⟨o,es,ep,base_of e (noA e d),d,r⟩
 have nK:∀ b o,K.lookup b = some o→H b = none:=fun b o e=>by
  cases q:H b with
  | none=>rfl
  | some u =>
   rw [hK b u q] at e
   cases e
 have hKb:K.In (hidT s₁.heap H):=fun b o e=>base_of (KX b o e) (nK b o e)
 have hM:Mod K mg (hidT s₁.heap H):=⟨hKb,nsK hns,⟨mb,nsK hb,hbb⟩,let ⟨mc,h1,h2⟩:=hlim; ⟨mc,nsK h1,h2⟩⟩
 have e0:Env0 P w K mg (hidT s₁.heap H) callerA [] s₁ H:=⟨rfl,hM,fun b o e=>of_hidT e,Nat.le_of_eq (hidT_size _ _),trivial,fun b hb=>absurd (show b ∈ ([]:List Addr) from hb) (by simp),hok,.of_eq hg⟩
 have hl:vals.length = ps.length:=by rw [wellAll_len hwl]; exact hlen
 refine codeAny_mono ((F _ hKb (nsK hns)).run callerA [] s₁ H ⟨vals,[]⟩ vals (vals.map toV) _ _ hr e0 (hbind s₁ vals hl) hV (hsp H _ hO hS)) fun r s' x=>?_
 cases r with
 | error e=>exact (hCX H e s' x).elim
 | ok fl =>
  cases fl with
  | next=>exact False.elim x
  | brk=>exact False.elim x
  | cont=>exact False.elim x
  | ret u =>
   obtain ⟨v,H',os,bare,un,hok',r',q⟩:=x
   have kept:∀ b o,s₁.heap.get? b = some o→s'.heap.get? b = some o:=fun b o e=>by
    cases q2:H b with
    | none=>exact un.keep b o e q2 (by intro z; exact absurd (show b ∈ ([]:List Addr) from z) (by simp)) (by simp)
    | some u2 =>
     rcases hO b with z | ⟨ob,u3,z⟩
     ·rw [q2] at z
      cases z
     ·have z2:=un.frzs b ob _ z
      obtain ⟨e1,_⟩:=hok b _ z
      obtain ⟨e2,_⟩:=hok' b _ z2
      rw [e] at e1
      cases e1
      exact e2
   have KX':K.In s'.heap:=fun b o e=>kept b o (KX b o e)
   obtain ⟨as,hrd⟩:=Dw.reads (R:=R) (cl:=cl) hok' KX' d0 v u q r'
   exact ⟨u,as,rfl,hrd,OldK.of_keep kept,os,bare⟩
theorem layable_weight {ds:List WData} (h:WData.layableAll ds = true):∀ d ∈ ds,d.weight≤1048576:=fun d hd =>
 (PySem.W.layableW_iff.mp (List.all_eq_true.mp h d hd)).2.2
theorem encAll_len:∀ (cs:List Codec) (a:Codec.denoteAll cs),(Codec.encAll cs a).length = cs.length
 | [],_=>rfl
 | c :: cs,a=>by
  show (Codec.encAll cs a.2).length + 1 = cs.length + 1
  rw [encAll_len cs a.2]
theorem walk_spec {r:OpenSpec} {k:Nat} {q:Program} {loose:List Str} {XP:(Str→Option Value)→Heap→Prop} {YP:World→Heap→Prop} {d:DefRec} {K:Params→PySem.W.Frag} {CX:World→CXT} {ps:List Str} {sp:World→Sp}
  (hwell:r.wellSaid = true) (hdf:d.params.defaults = []) (hlen:r.args.length = ps.length) (hr:Room k callerA)
  (hY:∀ (w:World) (h:Heap),YP w h→(K w.params).In h)
  (F:∀ (w:World) (mg:Str→Option Value) (fa:Addr) (h:Heap),YP w h→(K w.params).In h→h.Ns mainGlobals mg→mg d.name = some (.ref fa) →
   ∃ fd:FuncData,(∀ (s:Shared) (us:List Value),us.length = ps.length→BindsTo s fd ⟨us,[]⟩ (ps.zip us)) ∧
    ∀ base:Heap,(K w.params).In base→base.Ns mainGlobals mg→FnOk r.prog w (K w.params) mg base (CX w) k fa fd ps (sp w))
  (hsp:∀ (w:World) (H:Hp) (xs:List V) (a:Codec.denoteAll r.args),OnlyF H→Codec.withinAll r.args a = true→Codec.app r.args r.asked a = true→DwAll (K w.params) H xs (Codec.encAll r.args a) →
   sp w xs H (fun v H'=>Dw (K w.params) H' v (r.ret.enc (Codec.app r.args r.f a))) fun _ _ _=>False)
  (hCX:∀ (w:World) (H:Hp) (s:Shared) (e:Value) (s':Shared),CX w [] H s (fun _ _ _=>False) e s'→False) :
  PySem.W.WalkOS q loose XP YP r d [] (fun f vs=>PySem.call f vs):=by
 intro w s_0 s₁ mg mb G Y fa o pm cd doc dV kV ho hd hcd hD hmg hg args vals as hpre hlay hrd hwl hlo
 obtain ⟨a,e1,e2⟩:=PySem.W.os_pre_some hpre
 obtain ⟨e3,hwi⟩:=Codec.encAll_of_decAll r.args args a e1
 subst e3
 have KX:=hY w _ Y
 obtain ⟨fd,hb,hF⟩:=F w mg fa _ Y KX G.T.g hmg
 refine PySem.W.enter_call (codeAny_mono (spec_call (R:=[]) (cl:=classAt s_0.heap) (d0:=r.ret.enc (Codec.app r.args r.f a)) KX G.T.g G.T.b G.T.builtins G.T.nolimit hg hwl (pl_encAll _ _) (layable_weight hlay) hr hF hb (by rw [encAll_len]; exact hlen)
  (fun H xs hO hS=>hsp w H xs a hO hwi e2 hS) fun H e s'=>hCX w H s₁ e s') fun r' s' hq=>?_)
 obtain ⟨u,as',rfl,h1,h2,h3,h4⟩:=hq
 exact ⟨.inl ⟨u,_,as',rfl,fun _=>rfl,h1,(OpenSpec.post_iff hwell hwi _ _).mpr rfl,fun z=>Bool.noConfusion (show false = true from z)⟩,h2,h3,h4⟩
theorem walk_specK {r:OpenSpec} {k:Nat} {q:Program} {loose:List Str} {XP:(Str→Option Value)→Heap→Prop} {YP:World→Heap→Prop} {d:DefRec} {K:Params→PySem.W.Frag} {CX:CXT} {ps:List Str} {sp:PySem.W.Frag→Sp}
  (hwell:r.wellSaid = true) (hdf:d.params.defaults = []) (hlen:r.args.length = ps.length) (hr:Room k callerA)
  (hY:∀ (w:World) (h:Heap),YP w h→(K w.params).In h)
  (F:∀ (w:World) (mg:Str→Option Value) (fa:Addr) (h:Heap),YP w h→(K w.params).In h→h.Ns mainGlobals mg→mg d.name = some (.ref fa) →
   ∃ fd:FuncData,(∀ (s:Shared) (us:List Value),us.length = ps.length→BindsTo s fd ⟨us,[]⟩ (ps.zip us)) ∧
    ∀ base:Heap,(K w.params).In base→base.Ns mainGlobals mg→FnOk r.prog w (K w.params) mg base CX k fa fd ps (sp (K w.params)))
  (hsp:∀ (K:PySem.W.Frag) (H:Hp) (xs:List V) (a:Codec.denoteAll r.args),OnlyF H→Codec.withinAll r.args a = true→Codec.app r.args r.asked a = true→DwAll K H xs (Codec.encAll r.args a) →
   sp K xs H (fun v H'=>Dw K H' v (r.ret.enc (Codec.app r.args r.f a))) fun _ _ _=>False)
  (hCX:∀ (H:Hp) (s:Shared) (e:Value) (s':Shared),CX [] H s (fun _ _ _=>False) e s'→False) :
  PySem.W.WalkOS q loose XP YP r d [] (fun f vs=>PySem.call f vs) :=
 walk_spec (K:=K) (CX:=fun _=>CX) (sp:=fun w=>sp (K w.params)) hwell hdf hlen hr hY F (fun w H xs a h1 h2 h3 h4=>hsp (K w.params) H xs a h1 h2 h3 h4) fun _ H s e s'=>hCX H s e s'
end L2
end
set_option maxHeartbeats 4000000
namespace W1
open PySem PySem.Spec PyProof.Rows L2
theorem bo_len:bootBuiltins "len" = some (.builtin "len"):=by decide +kernel
theorem bo_max:bootBuiltins "max" = some (.builtin "max"):=by decide +kernel
theorem bo_all:bootBuiltins "all" = some (.builtin "all"):=by decide +kernel
theorem bo_ord:bootBuiltins "ord" = some (.builtin "ord"):=by decide +kernel
theorem bo_list:bootBuiltins "list" = some (.type "list"):=by decide +kernel
theorem bo_str:bootBuiltins "str" = some (.type "str"):=by decide +kernel
theorem len1 {us:List Value} (h:us.length = 1):∃ a,us = [a]:=List.length_eq_one_iff.mp h
theorem len2 {us:List Value} (h:us.length = 2):∃ a b,us = [a,b]:=by
 cases us with
 | nil=>cases h
 | cons a r=>(refine o1_1 (len1 (Nat.succ.inj h)) fun b y1_1=>?_; subst y1_1); exact ⟨a,b,rfl⟩
theorem len3 {us:List Value} (h:us.length = 3):∃ a b c,us = [a,b,c]:=by
 cases us with
 | nil=>cases h
 | cons a r=>(refine o2_1 (len2 (Nat.succ.inj h)) fun b c y2_2=>?_; subst y2_2); exact ⟨a,b,c,rfl⟩
abbrev Bi (x:Str) (st:Stmt) (ps:List Str):Prop:=∀ (kV doc pm:Value) (an:Option Addr) (cdv ct:Value) (us:List Value),us.length = ps.length→bindArgs (PySem.W.fnOf x x (defArgs st) (defBody st) (defScope st) .none kV doc pm an cdv ct) ⟨us,[]⟩ = pure (ps.zip us)
section
variable {P:Program} {w:World} {K:PySem.W.Frag} {mg:Str→Option Value} {base:Heap}
structure Own (P:Program) (w:World) (K:PySem.W.Frag) (mg:Str→Option Value) (base:Heap) (x:Str) (k:Nat) (ps:List Str) (sp:Sp):Prop where
 ex:∃ (f:Addr) (fd:FuncData),FnOk P w K mg base CX0 k f fd ps sp∧mg x = some (.ref f)∧PySem.W.keepIn K (.ref f) = true∧Binds K fd ps []
def FnAt (K:PySem.W.Frag) (mg:Str→Option Value) (x:Str) (st:Stmt):Prop:=∃ (f:Addr) (fd:FuncData),Fun K x x st f fd∧mg x = some (.ref f)
theorem Own.of {x:Str} {st:Stmt} {N ps:List Str} {k:Nat} {sp:Sp} (F:FnAt K mg x st) (S:FnScope N ps (defScope st))
  (bi:∀ (kV doc pm:Value) (an:Option Addr) (cdv ct:Value) (us:List Value),us.length = ps.length→bindArgs (PySem.W.fnOf x x (defArgs st) (defBody st) (defScope st) .none kV doc pm an cdv ct) ⟨us,[]⟩ = pure (ps.zip us))
  (len:∀ vs H Q E,sp vs H Q E→vs.length = ps.length)
  (hbody:∀ (f:Addr) (cdv:Value) (A:Around) (outer:List Env) (s:Shared) (H:Hp) (vs:List V) (Q:VK) (E:XK),Room k (A.deeper (envOfC x (defScope st) s.heap.objs.size f cdv))→sp vs H Q E →
   ∃ t,PSs (cxOf CX0 P w K mg base N x (defScope st) f cdv A outer s H E).nox (defBody st) t∧t { nx:=fun _ H'=>Q .non H',rt:=Q } (start N vs) H):Own P w K mg base x (k + 1) ps sp:=by
 refine o2_2 F fun f fd F hm=>?_
 exact ⟨f,fd,F.ok S len (fun cdv A outer s H vs Q E hr h=>hbody f cdv A outer s H vs Q E hr h),hm,F.kp,F.binds bi⟩
end
section
variable {X:Cx} {x:Str} {k:Nat} {ps:List Str} {sp:Sp} {e:Expr} {es:List Expr} {t:TA} {p pos:Pos}
theorem pe_own (C:Own X.prog X.w X.K X.mg X.base x k ps sp) (hr:Room k X.A) (hg:Gl X x) (ha:PA X (e :: es) t) (hdb:(x == ("__debug__":Str)) = false:=by decide)
  (he:starEach (e :: es) X.env = (false,eval e X.env) :: starEach es X.env:=by rfl) (hpl:(backTo pos (starEach es X.env)).any (·.1) = false:=by rfl):PE X (.Call (.Name x p) (e :: es) [] pos) (tCall sp [] E0 t):=by
 refine o2_4 C.ex fun f fd F hm hk hb=>?_
 exact pe_call F hr hg hm hk hb .nil pass0 ha hdb he hpl
theorem pe_gint {i:Int} (hg:Gl X x) (hm:∃ t,X.mg x = some (.int i t)) (hd:(x == ("__debug__":Str)) = false:=by decide):PE X (.Name x pos) (tC (.int i)):=by
 refine o1_1 hm fun t hm=>?_
 exact pe_glob hg hm ⟨t,rfl⟩ hd
theorem pe_gref {a:Addr} (hg:Gl X x) (hm:X.mg x = some (.ref a)) (hd:(x == ("__debug__":Str)) = false:=by decide):PE X (.Name x pos) (tC (.ref a)):=pe_glob hg hm rfl hd
end
section
variable {X:Cx}
def tCutS (t:TS):TS:=fun D σ H=>∃ M:L2.St→Hp→Prop,t { D with nx:=M } σ H∧∀ σ' H',M σ' H'→D.nx σ' H'
theorem ps_cut {st:Stmt} {t:TS} (h:PS X st t):PS X st (tCutS t):=by
 intro pins s σ H D I hw
 (refine o1_2 hw fun M h1 h2=>?_; try clear hw)
 refine thn (h pins s σ H _ I h1) fun f s1 q=>?_
 cases f with
 | next=>(refine o2_2 q fun σ' H' I' q=>?_); exact ⟨σ',H',I',h2 σ' H' q⟩
 | ret v=>exact q
 | brk=>exact q
 | cont=>exact q
def tCutT (t:TT):TT:=fun σ H Q=>∃ M:Bool→Hp→Prop,t σ H M∧∀ b H',M b H'→Q b H'
theorem pt_cut {e:Expr} {t:TT} (h:PT X e t):PT X e (tCutT t):=by
 intro pins s σ H Q I hw
 (refine o1_2 hw fun M h1 h2=>?_; try clear hw)
 exact thn (h pins s σ H M I h1) fun b s1 ⟨H',I',q⟩=>⟨H',I',h2 b H' q⟩
def tCutE (t:TE):TE:=fun σ H Q=>∃ M:VK,t σ H M∧∀ v H',M v H'→Q v H'
theorem pe_cut {e:Expr} {t:TE} (h:PE X e t):PE X e (tCutE t):=by
 intro pins s σ H Q I hw
 (refine o1_2 hw fun M h1 h2=>?_; try clear hw)
 exact thn (h pins s σ H M I h1) fun v s1 ⟨x,H',I',r,q⟩=>⟨x,H',I',r,h2 x H' q⟩
end
theorem Same.put {H H':Hp} {a:Addr} {o:HO} (s:Same H H') (n:H a = none):Same H (upd H' a o):=fun b u e=>by
 rw [upd_ne (ne_of_none e n)]
 exact s b u e
theorem same_new {H:Hp} {a:Addr} {o:HO} (n:H a = none):Same H (upd H a o):=Same.put (Same.refl H) n
theorem Same.tup {K:PySem.W.Frag} {H H':Hp} {a:Addr} {xs:List V} (e:Same H H') (h:SqT K H a xs):SqT K H' a xs:=by
 rcases h with (h | ⟨o,h⟩) | h
 ·exact .inl (.inl (e _ _ h))
 ·exact .inl (.inr ⟨o,e _ _ h⟩)
 ·exact .inr h
theorem eqv_ints:∀ xs ys:List Int,PyData.eqvAll (xs.map PyData.int) (ys.map PyData.int) = decide (xs = ys)
 | [],[]=>rfl
 | [],_ :: _=>rfl
 | _ :: _,[]=>rfl
 | x :: xs,y :: ys=>by
  rw [List.map_cons,List.map_cons,PyData.eqvAll,eqv_ints xs ys,PyData.eqv,Bool.eq_iff_iff]
  simp
theorem lay_ints:∀ xs:List Int,PyData.canLayAll0 (xs.map PyData.int) = true
 | []=>rfl
 | x :: xs=>by rw [List.map_cons,PyData.canLayAll0,lay_ints xs,PyData.canLay0]; rfl
theorem dep_ints:∀ xs:List Int,PyData.depthAll (xs.map PyData.int) = 0
 | []=>rfl
 | x :: xs=>by rw [List.map_cons,PyData.depthAll,dep_ints xs]; rfl
theorem shp_ints (xs:List Int):SeqAt.shaped (.list (xs.map PyData.int)) = true:=by
 unfold SeqAt.shaped
 rw [PyData.canLay0,lay_ints,PyData.depth,dep_ints]
 rfl
theorem dp_ints {K:PySem.W.Frag} {H:Hp}:∀ xs:List Int,DpAll K H (xs.map V.int) (xs.map PyData.int)
 | []=>.nil
 | x :: xs=>.cons (.int x) (dp_ints xs)
theorem eqv_strs:∀ xs ys:List Str,PyData.eqvAll (xs.map PyData.str) (ys.map PyData.str) = decide (xs = ys)
 | [],[]=>rfl
 | [],_ :: _=>rfl
 | _ :: _,[]=>rfl
 | x :: xs,y :: ys=>by
  rw [List.map_cons,List.map_cons,PyData.eqvAll,eqv_strs xs ys,PyData.eqv,Bool.eq_iff_iff]
  simp
theorem lay_strs:∀ xs:List Str,xs.all PyData.strOk = true→PyData.canLayAll0 (xs.map PyData.str) = true
 | [],_=>rfl
 | x :: xs,h=>by
  rw [List.all_cons,Bool.and_eq_true] at h
  rw [List.map_cons,PyData.canLayAll0,lay_strs xs h.2,PyData.canLay0,h.1]; rfl
theorem dep_strs:∀ xs:List Str,PyData.depthAll (xs.map PyData.str) = 0
 | []=>rfl
 | x :: xs=>by rw [List.map_cons,PyData.depthAll,dep_strs xs]; rfl
theorem shp_strs {xs:List Str} (h:xs.all PyData.strOk = true):SeqAt.shaped (.list (xs.map PyData.str)) = true:=by
 unfold SeqAt.shaped
 rw [PyData.canLay0,lay_strs xs h,PyData.depth,dep_strs]
 rfl
theorem dp_strs {K:PySem.W.Frag} {H:Hp}:∀ xs:List Str,DpAll K H (xs.map V.str) (xs.map PyData.str)
 | []=>.nil
 | x :: xs=>.cons (.str x) (dp_strs xs)
def rEqInts (K:PySem.W.Frag):R2:=fun x y H Q=>∃ (a b:Addr) (xs ys:List Int),x = .ref a∧y = .ref b∧SqL K H a (xs.map V.int)∧SqL K H b (ys.map V.int)∧Q (.bl (decide (xs = ys))) H
def rEqStrs (K:PySem.W.Frag):R2:=fun x y H Q=>∃ (a b:Addr) (xs ys:List Str),x = .ref a∧y = .ref b∧SqL K H a (xs.map V.str)∧SqL K H b (ys.map V.str)∧xs.all PyData.strOk = true∧ys.all PyData.strOk = true∧Q (.bl (decide (xs = ys))) H
section
variable {X:Cx}
theorem op_eqInts (hu:X.A.units + 64 < cLine):OpR X (compareOp .Eq) (rEqInts X.K):=by
 intro pins s σ H x y v u Q I rx ry h
 (refine o4_5 h fun a b xs ys y10_4 y10_5 h1 h2 q=>?_; try clear h; subst y10_4; subst y10_5)
 refine op_eqD hu pins s σ H _ _ v u Q I rx ry ⟨_,_,.lst h1 (dp_ints xs),.lst h2 (dp_ints ys),shp_ints xs,shp_ints ys,?_⟩
 rw [PyData.eqv,eqv_ints]
 exact q
theorem op_eqStrs (hu:X.A.units + 64 < cLine):OpR X (compareOp .Eq) (rEqStrs X.K):=by
 intro pins s σ H x y v u Q I rx ry h
 (refine o4_7 h fun a b xs ys y11_4 y11_5 h1 h2 s1 s2 q=>?_; try clear h; subst y11_4; subst y11_5)
 refine op_eqD hu pins s σ H _ _ v u Q I rx ry ⟨_,_,.lst h1 (dp_strs xs),.lst h2 (dp_strs ys),shp_strs s1,shp_strs s2,?_⟩
 rw [PyData.eqv,eqv_strs]
 exact q
theorem cnt_str (k:Str):∀ ys:List Str,PySem.Spec.countIn (.str k) (ys.map PyData.str) = ((ys.count k:Nat):Int)
 | []=>rfl
 | y :: ys=>by
  rw [List.map_cons,PySem.Spec.countIn,cnt_str k ys,List.count_cons]
  simp only [PySem.Spec.same]
  by_cases e:y = k
  ·subst e; simp; omega
  ·simp [e]
def rCountS (K:PySem.W.Frag):V→List V→Hp→VK→Prop:=fun x xs H Q=>∃ (a:Addr) (ys:List Str) (k:Str),x = .ref a∧xs = [.str k]∧SqL K H a (ys.map V.str)∧Q (.int ((ys.count k:Nat):Int)) H
theorem mt_countS:MtR X "list.count" (rCountS X.K):=by
 intro pins s σ H x xs v us Q I rx rs h
 (refine o3_4 h fun a ys k y12_3 y12_4 hq q=>?_; try clear h; subst y12_3; subst y12_4)
 cases rx
 obtain ⟨u,rfl,t,rfl⟩:=vals1 rs
 refine o1_3 (I.list hq) fun its r pl _=>?_
 refine count_list_strs pl.isList (strs_of_vals r) ⟨.int _,H,I.tok _,⟨_,rfl⟩,?_⟩
 rw [cnt_str]
 exact q
def DicK (P:Program) (w:World) (K:PySem.W.Frag) (a:Addr) (m:Str→Option Value):Prop:=(a == sysModules) = false∧∀ h:Heap,K.In h→h.MapOf (strKind P w) a m
def tKGet (P:Program) (w:World) (K:PySem.W.Frag) (to ti:TE):TE:=fun σ H Q=>to σ H fun x H1=>ti σ H1 fun y H2 =>
 ∃ (a:Addr) (k:Str) (m:Str→Option Value) (v:V) (u:Value),x = .ref a∧y = .str k∧DicK P w K a m∧m k = some u∧RelV v u∧Q v H2
def tKIn (P:Program) (w:World) (K:PySem.W.Frag) (neg:Bool) (ti to:TE):TE:=fun σ H Q=>ti σ H fun y H1=>to σ H1 fun x H2 =>
 ∃ (a:Addr) (k:Str) (m:Str→Option Value),x = .ref a∧y = .str k∧DicK P w K a m∧Q (.bl (if neg then !(m k).isSome else (m k).isSome)) H2
variable {o i:Expr} {to ti:TE} {pos:Pos}
theorem pe_kget (ho:PE X o to) (hi:PE X i ti) (hs:NoSl i):PE X (.Subscript o i pos) (tKGet X.prog X.w X.K to ti):=by
 intro pins s σ H Q I h
 refine subD_of PySem.F.slot_dict_getitem.lookup hs (thn (ho pins s σ H _ I h) fun u s1 ⟨x,H1,I1,rx,q1⟩=>thn (hi pins s1 σ H1 _ I1 q1) fun iv s2 ⟨y,H2,I2,ry,a,k,m,v,u',ex,ey,⟨_,D⟩,hm,rv,q2⟩=>?_)
 subst ex ey
 obtain rfl:u = Value.ref a:=rx
 (refine o1_1 ry fun t y15_1=>?_; try clear ry; subst y15_1)
 have M:=D s2.heap I2.kIn
 exact ⟨M.typeIs,wpAny_getItem_of (strKind_is X.prog X.w k t) M hm ⟨v,H2,I2.tok _,rv,q2⟩⟩
theorem pc_kin (hi:PE X i ti) (ho:PE X o to):PC X .In i o (tKIn X.prog X.w X.K false ti to):=by
 intro pins s σ H Q I h
 refine thn (hi pins s σ H _ I h) fun iv s1 ⟨y,H1,I1,ry,q1⟩=>thn (ho pins s1 σ H1 _ I1 q1) fun u s2 ⟨x,H2,I2,rx,a,k,m,ex,ey,⟨lo,D⟩,q2⟩=>?_
 subst ex ey
 obtain rfl:u = Value.ref a:=rx
 (refine o1_1 ry fun t y16_1=>?_; try clear ry; subst y16_1)
 exact wpAny_in_of (strKind_is X.prog X.w k t) lo (D s2.heap I2.kIn) ⟨.bl _,H2,I2.tok _,rfl,q2⟩
theorem pc_knotin (hi:PE X i ti) (ho:PE X o to):PC X .NotIn i o (tKIn X.prog X.w X.K true ti to):=by
 intro pins s σ H Q I h
 refine thn (hi pins s σ H _ I h) fun iv s1 ⟨y,H1,I1,ry,q1⟩=>thn (ho pins s1 σ H1 _ I1 q1) fun u s2 ⟨x,H2,I2,rx,a,k,m,ex,ey,⟨lo,D⟩,q2⟩=>?_
 subst ex ey
 obtain rfl:u = Value.ref a:=rx
 (refine o1_1 ry fun t y17_1=>?_; try clear ry; subst y17_1)
 exact wpAny_notIn_of (strKind_is X.prog X.w k t) lo (D s2.heap I2.kIn) ⟨.bl _,H2,I2.tok _,rfl,q2⟩
end
section
variable {X:Cx} {P:Program} {w:World} {K:PySem.W.Frag} {pos:Pos}
theorem pg_tupK {es:List Expr} {k:Nat} {t:TGs} {n:Nat} (hK:X.K = K) (hc:X.calm = true) (h:PGs X es t) (hn:(assignEach es X.env).length = n:=by rfl) (hst:(assignEach es X.env).findIdx? (·.1) = none:=by rfl):PG X (.Tuple es k pos) (gTup K n t):=by
 subst hK
 exact pg_tup hc h hn hst
end
section
variable {X:Cx}
def rSetdef:V→List V→Hp→VK→Prop:=fun x xs H Q=>∃ (a:Addr) (kvs:List (Key × V)) (k:Key) (v:V),x = .ref a∧xs = [kV k,v]∧H a = some (.dK kvs)∧kvs.length < sizeLine ∧
 (∀ y,valV kvs k = some y→Q y H)∧(valV kvs k = none→Q v (upd H a (.dK (putK kvs k v))))
theorem mt_setdef:MtR X "dict.setdefault" rSetdef:=by
 intro pins s σ H x xs v us Q I rx rs h
 (refine o4_6 h fun a kvs k dv y18_4 y18_5 hH hl h1 h2=>?_; try clear h; subst y18_4; subst y18_5)
 cases rx
 (refine o2_3 rs.two fun u d y19_2 ru rd=>?_; subst y19_2)
 obtain ⟨z,hd,vs,rel,dd⟩:=dk_of I.hok hH
 refine call_meetsIn PySem.F.slot_dict_setdefault dd.typeIs PySem.F.entry_dict_setdefault (PySem.F.args_dict_setdefault_3 _ _ _) (kt_meets_setdefault (mixKind X.prog X.w) a (kV_is ru) hd d)
  ⟨vs,dd,by rw [← rel.length]; exact z,fun w hw=>?_,fun hn h' dd' hs=>?_⟩
 ·have r:=rel.val k
  rw [hw] at r
  cases e:valV kvs k with
  | none=>rw [e] at r; exact r.elim
  | some y=>rw [e] at r; exact ⟨y,H,I.tok _,r,h1 y e⟩
 ·have r:=rel.val k
  rw [hn] at r
  have e:valV kvs k = none:=by
   cases e:valV kvs k with
   | none=>rfl
   | some y=>rw [e] at r; exact r.elim
  have he:∃ q,h'.get? a = some q:=let ⟨q,_,_,hq,_⟩:=dd'; ⟨q,hq⟩
  have hz:(putK kvs k dv).length≤sizeLine:=by have:=length_putK kvs k dv; omega
  exact ⟨dv,_,d_write I (by rw [hH]; exact True.intro) hs he (dk_new hz hd (rel.put k rd) dd'),rd,h2 e⟩
end
theorem lc_str {x:Str} {g:TG} {tt:TT} {te:TE} {vs:List Nat} {σ:L2.St} {H1:Hp} {D:Addr} {Qd:Hp→Prop} (Pv:Nat→Hp→Prop) (h0:Pv 0 (upd H1 D (.lst [])))
  (hs:∀ i c H,x.cps[i]? = some c→Pv i H→g (.str ⟨#[c]⟩) (wipe σ vs) H fun σ2 H2=>wipe σ2 vs = wipe σ vs∧tt σ2 H2 fun b H3 =>
   if b = true then te σ2 H3 fun y H4=>∃ acc,H4 D = some (.lst acc)∧acc.length < sizeLine∧Pv (i + 1) (upd H4 D (.lst (acc ++ [y]))) else Pv (i + 1) H3) (hd:∀ H,Pv x.cps.size H→Qd H) :
  ∃ W:Nat→Nat→Hp→Prop,(∃ m,W 0 m (upd H1 D (.lst [])))∧∀ i m H,W i m H →
   ((Its x).stop i H∧Qd H)∨((Its x).go i H∧∃ Nx:Hp→Prop,(∀ H',Nx H'→∃ m',m' < m∧W (i + 1) m' H')∧∀ y H',(Its x).yld i H y H'→g y (wipe σ vs) H' fun σ2 H2=>wipe σ2 vs = wipe σ vs∧tt σ2 H2 fun b H3 =>
    if b = true then te σ2 H3 fun y H4=>∃ acc,H4 D = some (.lst acc)∧acc.length < sizeLine∧Nx (upd H4 D (.lst (acc ++ [y]))) else Nx H3):=by
 refine ⟨fun i m H=>m = x.cps.size - i∧i≤x.cps.size∧Pv i H,⟨x.cps.size,by simp,Nat.zero_le _,h0⟩,?_⟩
 (intro i m H oi21; refine o0_3 oi21 fun y22_0 hi p=>?_; try clear oi21; subst y22_0)
 by_cases hlt:i < x.cps.size
 ·refine .inr ⟨hlt,Pv (i + 1),fun H' p'=>⟨x.cps.size - (i + 1),by omega,rfl,hlt,p'⟩,fun y H' q=>?_⟩
  obtain ⟨e,c,hc,e2⟩:=q
  subst e e2
  exact hs i c _ hc p
 ·have e:i = x.cps.size:=by omega
  subst e
  exact .inl ⟨Nat.le_refl _,hd H p⟩
theorem take_snoc {α:Type}:∀ {l:List α} {i:Nat} {x:α},l[i]? = some x→l.take (i + 1) = l.take i ++ [x]
 | [],i,x,h=>by simp at h
 | a :: l,0,x,h=>by
  have e:a = x:=Option.some.inj h
  subst e
  rfl
 | a :: l,i + 1,x,h=>by
  have ih:=take_snoc (l:=l) (i:=i) (x:=x) h
  show a :: l.take (i + 1) = a :: l.take i ++ [x]
  rw [ih]
  rfl
theorem map_at {α β:Type} {f:α→β} {l:List α} {i:Nat} {y:β} (h:(l.map f)[i]? = some y):∃ x,l[i]? = some x∧y = f x:=by
 rw [List.getElem?_map] at h
 cases e:l[i]? with
 | none=>rw [e] at h; cases h
 | some x=>rw [e] at h; exact ⟨x,rfl,(Option.some.inj h).symm⟩
theorem cut_nat (xs:List V) (i j:Nat) (h:i≤xs.length):cutV xs (some (i:Int)) (some (j:Int)) = (xs.drop i).take (j - i):=by
 unfold cutV
 rw [HT.sIx_nat,HT.sIx_nat,Nat.min_eq_left h]
 by_cases hj:j≤xs.length
 ·rw [Nat.min_eq_left hj]
 ·rw [Nat.min_eq_right (by omega),List.take_of_length_le (i:=xs.length - i) (by rw [List.length_drop]; omega),List.take_of_length_le (by rw [List.length_drop]; omega)]
theorem cut_from (xs:List V) (i:Nat) (h:i≤xs.length):cutV xs (some (i:Int)) none = xs.drop i:=by
 unfold cutV
 rw [HT.sIx_nat,HT.sIx_none,Nat.min_eq_left h,List.take_of_length_le (by rw [List.length_drop]; omega)]
theorem cut_to (xs:List V) (j:Nat):cutV xs none (some (j:Int)) = xs.take j:=by
 unfold cutV
 rw [HT.sIx_nat,HT.sIx_none,List.drop_zero,Nat.sub_zero]
 by_cases hj:j≤xs.length
 ·rw [Nat.min_eq_left hj]
 ·rw [Nat.min_eq_right (by omega),List.take_of_length_le (Nat.le_refl _),List.take_of_length_le (by omega)]
end W1
namespace W1
open PySem PyProof.Rows
open AutoSeq1 (wpAny_loadPart')
section
variable {prog:Program} {w:World} {A:Around} {E:Value→Shared→Prop} {s:Shared}
theorem en_item {e it l:Addr} {i:Nat} {c:Int} {items:Array Value} {x old:Value} {Q:Option Value→Shared→Prop}
  (he:IsEnum s.heap e it c old) (hit:s.heap.IsListIter it l i) (hl:s.heap.IsList l items) (hx:items[i]? = some x) (hne:e≠it)
  (hQ:∀ h',IsEnumOut h' e it (c + 1) x s.heap.objs.size→h'.IsListIter it l (i + 1)→h'.get? s.heap.objs.size = some { cls:=.type "tuple",data:=.seq #[.int c s.toks,x] } →
   h'.objs.size = s.heap.objs.size + 1→(∀ b o,b≠e→b≠it→s.heap.get? b = some o→h'.get? b = some o)→Q (some (.ref s.heap.objs.size)) { s with heap:=h',toks:=s.toks + 1 }) :
  wpAny (model prog w) A (pyNext (.ref e)) Q E s:=by
 have hT:s.TypeIs (.ref e) "enumerate":=⟨_,he,rfl⟩
 unfold pyNext
 refine wpAny_bind (wpAny_attempt (wpAny_callSpecial?_slot (name:=Str.ofString "__next__") hT F.slot_enumerate_next (wpAny_call_entry F.slot_enumerate_next hT F.entry_enumerate_next ?_ (F.args_enumerate_next_1 _))))
 obtain ⟨hp,g,d,tk,os⟩:=s
 show wpAny _ _ (field (.ref e) 2 >>= _) _ _ _
 refine wpAny_bind (wpAny_field he rfl (x:=.ref it) rfl (wpAny_bind (wpAny_nextOf_list_item hit hl hx fun h1 hit1 s1=>?_)))
 have e1:IsEnum h1 e it c old:=(s1.2 e hne).trans he
 show wpAny _ _ (field (.ref e) 3 >>= _) _ _ ⟨h1,g,d,tk,os⟩
 refine wpAny_bind (wpAny_field e1 rfl (x:=rawInt c) rfl ?_)
 show wpAny _ _ (field (.ref e) 4 >>= _) _ _ ⟨h1,g,d,tk,os⟩
 refine wpAny_bind (wpAny_field e1 rfl (x:=.none) rfl ?_)
 show wpAny _ _ (mkInt c >>= _) _ _ ⟨h1,g,d,tk,os⟩
 refine wpAny_bind (wpAny_mkInt ?_)
 show wpAny _ _ (setField (.ref e) 3 (rawInt (c + 1)) >>= _) _ _ ⟨h1,g,d,tk + 1,os⟩
 refine wpAny_bind (wpAny_setField_rec e1 (by simp) fun h2 e2 s2=>?_)
 replace e2:IsEnum h2 e it (c + 1) old:=e2
 show wpAny _ _ (setField (.ref e) 4 .none >>= _) _ _ ⟨h2,g,d,tk + 1,os⟩
 refine wpAny_bind (wpAny_setField_rec e2 (by simp) fun h3 e3 s3=>?_)
 replace e3:IsEnum h3 e it (c + 1) old:=e3
 have z3:h3.objs.size = hp.objs.size:=by
  have a1:=s1.1; have a2:=s2.1; have a3:=s3.1
  exact a3.trans (a2.trans a1)
 have k3:∀ b o,b≠e→b≠it→hp.get? b = some o→h3.get? b = some o:=fun b o n1 n2 q=>s3.extBut b o n1 (s2.extBut b o n1 (s1.extBut b o n2 q))
 have i3:h3.IsListIter it l (i + 1):=(hit1.extBut s2.extBut (Ne.symm hne)).extBut s3.extBut (Ne.symm hne)
 have hel:e < hp.objs.size:=Heap.lt_size he
 show wpAny _ _ (newTuple [.int c tk,x] >>= _) _ _ ⟨h3,g,d,tk + 1,os⟩
 refine wpAny_bind (wpAny_newTuple ?_)
 rw [z3]
 generalize hh4:h3.push { cls:=.type "tuple",data:=.seq #[.int c tk,x] } = h4
 have e4:IsEnum h4 e it (c + 1) old:=by rw [← hh4]; exact Heap.get?_push_of_some _ e3
 have t4:h4.get? hp.objs.size = some { cls:=.type "tuple",data:=.seq #[.int c tk,x] }:=by rw [← hh4,← z3]; exact Heap.get?_push_size _ rfl
 have z4:h4.objs.size = hp.objs.size + 1:=by rw [← hh4,Heap.size_push,z3]
 have k4:∀ b o,b≠e→b≠it→hp.get? b = some o→h4.get? b = some o:=fun b o n1 n2 q=>by rw [← hh4]; exact Heap.get?_push_of_some _ (k3 b o n1 n2 q)
 have i4:h4.IsListIter it l (i + 1):=by rw [← hh4]; exact i3.at fun o q=>Heap.get?_push_of_some _ q
 clear hh4
 show wpAny _ _ (Builtin.SmallTypes.ownedTupleIsFree (.ref e) >>= _) _ _ ⟨h4,g,d,tk + 1,os⟩
 refine wpAny_bind ?_
 unfold Builtin.SmallTypes.ownedTupleIsFree
 refine wpAny_bind (wpAny_field e4 rfl (x:=.none) rfl (wpAny_pure ?_))
 simp only [if_true]
 refine wpAny_bind (wpAny_rule (wpAny_bind (wpAny_field e4 rfl (x:=old) rfl (wpAny_bind (wpAny_setField_rec e4 (by simp) fun h5 e5 s5=>?_)))))
 replace e5:IsEnum h5 e it (c + 1) x:=e5
 show wpAny _ _ (Builtin.SmallTypes.ownedTupleHandOut (.ref e) (.ref hp.objs.size) >>= _) _ _ ⟨h5,g,d,tk + 1,os⟩
 refine wpAny_bind ?_
 unfold Builtin.SmallTypes.ownedTupleHandOut
 refine wpAny_bind (wpAny_setField_rec e5 (by simp) fun h6 e6 s6=>?_)
 replace e6:IsEnumOut h6 e it (c + 1) x hp.objs.size:=e6
 refine wpAny_setField_rec e6 (by simp) fun h7 e7 s7=>?_
 replace e7:IsEnumOut h7 e it (c + 1) x hp.objs.size:=e7
 have up:∀ b o,b≠e→h4.get? b = some o→h7.get? b = some o:=fun b o n q=>s7.extBut b o n (s6.extBut b o n (s5.extBut b o n q))
 refine wpAny_bind (wpAny_letGo (wpAny_pure ⟨_,rfl,wpAny_pure (hQ h7 e7 (i4.at fun o q=>up _ o (Ne.symm hne) q) (up _ _ (Nat.ne_of_gt hel) t4) ?_ fun b o n1 n2 q=>up b o n1 (k4 b o n1 n2 q))⟩))
 rw [s7.1,s6.1,s5.1,z4]
theorem en_end {e it l:Addr} {i:Nat} {c:Int} {items:Array Value} {old:Value} {Q:Option Value→Shared→Prop} (hh:A.handled = none)
  (he:IsEnum s.heap e it c old) (hit:s.heap.IsListIter it l i) (hl:s.heap.IsList l items) (hx:items[i]? = none)
  (hQ:∀ h',Heap.ExtBut it s.heap h'→Q none { s with heap:=h' }):wpAny (model prog w) A (pyNext (.ref e)) Q E s:=by
 have hT:s.TypeIs (.ref e) "enumerate":=⟨_,he,rfl⟩
 unfold pyNext
 refine wpAny_bind (wpAny_attempt (wpAny_callSpecial?_slot (name:=Str.ofString "__next__") hT F.slot_enumerate_next (wpAny_call_entry F.slot_enumerate_next hT F.entry_enumerate_next ?_ (F.args_enumerate_next_1 _))))
 show wpAny _ _ (field (.ref e) 2 >>= _) _ _ _
 refine wpAny_bind (wpAny_field he rfl (x:=.ref it) rfl (wpAny_bind (wpAny_nextOf_list_end hh hit hl hx fun h' x he' hx'=>?_)))
 (refine o1_2 hx' fun o ho hc=>?_; try clear hx')
 exact wpAny_bind (wpAny_isInstance (T:="StopIteration") (b:=true) ⟨o,ho,hc⟩ isSubtype_stop (wpAny_pure (hQ _ he')))
end
theorem callWith_type_kw {M:Model} {A:Around} {E:Value→Shared→Prop} {s:Shared} {env:Env} {pos:Pos} {T:String} {e:Expr} {rest:List Expr} {kws:List Keyword} {Q:Value→Shared→Prop}
  (h:wpAny M A (spliced (backTo pos (starEach (e :: rest) env))) (fun vs s1=>wpAny M A (evalAll ((backToKw pos (keywordEach kws env)).map (·.2)))
   (fun kvs s2=>wpAny M A (call (.type T) vs (((backToKw pos (keywordEach kws env)).filterMap (·.1)).zip kvs)) Q E s2) E s1) E s)
  (he:backTo pos (starEach (e :: rest) env) = (false,eval e env) :: backTo pos (starEach rest env):=by rfl) (hplain:(backTo pos (starEach (e :: rest) env)).any (·.1) = false:=by rfl)
  (hall:(backToKw pos (keywordEach kws env)).all (·.1.isSome) = true:=by rfl) (hkw:(backToKw pos (keywordEach kws env)).any (·.1.isNone) = false:=by rfl) :
  wpAny M A (callWith pos (.type T) [] (backTo pos (starEach (e :: rest) env)) (backToKw pos (keywordEach kws env))) Q E s:=by
 unfold callWith
 rw [he] at h hplain ⊢
 refine wpAny_bind (wpAny_holding (wpAny_mono (evalArgs_kwB (Q:=fun a s1=>wpAny M A (call (.type T) a.pos a.kw) Q E s1) hall h) (fun a s1 h1=>wpAny_bind (wpAny_standAt ?_)) fun _ _ x=>x))
 simp only [hplain,hkw,Bool.or_false]
 refine wpAny_bind (wpAny_pure ?_)
 exact wpAny_bind (wpAny_mono h1 (fun r s2 hr=>wpAny_bind (wpAny_holding (wpAny_point (wpAny_pure hr)))) fun _ _ x=>x)
section
variable {prog:Program} {w:World} {A:Around} {E:Value→Shared→Prop} {s:Shared}
theorem init_kw {T newId:String} {self:Value} {rest:List Value} {kw:List (Str × Value)} (hl:typeLookup (.type T) "__init__" = pure (some (.builtin "object.__init__")))
  (hm:Bind.madeBy (.type T) = pure (some newId)) (hne:(some newId != some "object.__new__") = true) :
  Meets (Builtin.«object.__init__» ⟨self :: rest,kw⟩) (fun _ R s=>s.TypeIs self T∧R (.ok (.ret .none)) s):=by
 refine Meets.of_wp fun prog w A R s hs=>?_
 (refine o0_2 hs fun hT hq=>?_; try clear hs)
 cases rest with
 | nil =>
  cases kw with
  | nil=>exact wpAny_pure ⟨_,rfl,hq⟩
  | cons a kw =>
   repeat (any_goals (first | assumption | wp_step))
   exact ⟨_,rfl,hq⟩
 | cons a rest =>
  repeat (any_goals (first | assumption | wp_step))
  exact ⟨_,rfl,hq⟩
theorem tcall_kw (a b:Value):checkTypeCall "enumerate" ⟨[a],[("start",b)]⟩ = pure ():=by kernel_rfl
theorem ncall_kw (a b:Value):checkBuiltinCall "enumerate.__new__" ⟨[.type "enumerate",a],[("start",b)]⟩ = pure ():=by kernel_rfl
theorem iargs_kw (a b c:Value):argsOk "object.__init__" ⟨[a,b],[("start",c)]⟩:=by
 unfold argsOk; rw [signature?_of (id:="object.__init__") (n:=['_','_','t','i','n','i','_','_']) (o:=['t','c','e','j','b','o']) (by kernel_rfl) F.owner_object]; kernel_rfl
theorem new_kw (l:Addr) (items:Array Value) (t:Tok) :
  Meets (Builtin.«enumerate.__new__» ⟨[.type "enumerate",.ref l],[("start",.int 1 t)]⟩) (fun _ R s=>s.heap.IsList l items ∧
   R (.ok (.ret (.ref (s.heap.push { cls:=.type "list_iterator",data:=.fields #[.ref l,.int 0 0] }).objs.size)))
    { s with heap:=(s.heap.push { cls:=.type "list_iterator",data:=.fields #[.ref l,.int 0 0] }).push { cls:=.type "enumerate",data:=.fields #[.none,.bool false,.ref s.heap.objs.size,rawInt 1,.none,.none] } }) :=
 .of_wp fun prog w A R s h=>by
  obtain ⟨hp,g,d,tk,os⟩:=s
  refine o0_2 h fun hL h=>?_
  replace hL:Heap.IsList (Shared.heap ⟨hp,g,d,tk,os⟩) l items:=hL
  have hsub:=sub_enumerate
  wp_walk
  refine wpAny_stack_any fun st=>wpAny_pure ?_
  split
  ·rename_i c _ _ _ _ _
   cases (c == Value.type "enumerate")
   ·wp_walk using wpAny_pyIter_list hL
    exact ⟨_,rfl,h⟩
   ·wp_walk using wpAny_pyIter_list hL
    exact ⟨_,rfl,h⟩
  ·wp_walk using wpAny_pyIter_list hL
   exact ⟨_,rfl,h⟩
theorem enum_kw {l:Addr} {items:Array Value} {t:Tok} {Q:Value→Shared→Prop} (hL:s.heap.IsList l items)
  (h:∀ h',IsEnum h' (s.heap.objs.size + 1) s.heap.objs.size 1 .none→h'.IsListIter s.heap.objs.size l 0→h'.objs.size = s.heap.objs.size + 2 →
   (∀ b o,s.heap.get? b = some o→h'.get? b = some o)→Q (.ref (s.heap.objs.size + 1)) { s with heap:=h' }) :
  wpAny (model prog w) A (call (.type "enumerate") [.ref l] [("start",.int 1 t)]) Q E s:=by
 have ft:=F.called_enumerate
 refine o2_1 ft.mro fun c tl hmro=>?_
 have hmade:=ft.made
 have hsub:=ft.sub
 have hct:=tcall_kw (.ref l) (.int 1 t)
 refine wpAny_call (codeAny_of_tree ?_)
 show wpAny _ _ (callAny (.type "enumerate") _) _ _ _
 refine wpAny_pure ⟨Code.quiet_builtin _ (by decide +kernel),codeAny_builtin F.entry_type_call ?_⟩
 rw [Around.under_plain (weight_type_call_type "enumerate" [.ref l] _) (units_type_call_type "enumerate" [.ref l] _)]
 have h1:=ft.notType
 have h2:=ft.canCreate
 repeat (any_goals (first | assumption | wp_step))
 have hz:(s.heap.push { cls:=.type "list_iterator",data:=.fields #[.ref l,.int 0 0] }).objs.size = s.heap.objs.size + 1:=Heap.size_push ..
 have he:IsEnum ((s.heap.push { cls:=.type "list_iterator",data:=.fields #[.ref l,.int 0 0] }).push
   { cls:=.type "enumerate",data:=.fields #[.none,.bool false,.ref s.heap.objs.size,rawInt 1,.none,.none] }) (s.heap.objs.size + 1) s.heap.objs.size 1 .none:=by
  have:=Heap.get?_push_size (s.heap.push { cls:=.type "list_iterator",data:=.fields #[.ref l,.int 0 0] })
   (o:={ cls:=.type "enumerate",data:=.fields #[.none,.bool false,.ref s.heap.objs.size,rawInt 1,.none,.none] }) rfl
  rw [hz] at this; exact this
 have hq:=h _ he ⟨_,Heap.get?_push_of_some _ (Heap.get?_push_size _ rfl),rfl,rfl⟩ (by rw [Heap.size_push,hz]) fun b o x=>Heap.get?_push_of_some _ (Heap.get?_push_of_some _ x)
 refine codeAny_mono (codeAny_call_builtin (R:=wants (fun obj s1=>s1.TypeIs obj "enumerate"∧Q obj s1) E) ft.plain F.entry_enumerate_new (wpAny_of_eq (ncall_kw _ _) (new_kw l items t prog w A.in1 _ s ⟨hL,?_⟩))) fun r s1 hr=>?_
 ·show _∧_
  rw [hz]
  exact ⟨⟨_,he,rfl⟩,hq⟩
 cases r with
 | error e=>exact hr
 | ok fl =>
  cases fl with
  | ret obj =>
   (refine o0_2 hr fun hT hok=>?_; try clear hr)
   have hli:=ft.init.lookup
   have hbi:=ft.init.bind obj
   repeat (any_goals (first | assumption | wp_step))
   refine codeAny_mono (codeAny_call_builtin (R:=wants (fun r s2=>r = .none∧Q obj s2) E) ft.init.plain F.entry_object_init (ft.init.check _ _ _ _ _ _ _ _ hT (iargs_kw _ _ _) (init_kw ft.init.lookup ft.made (by decide) prog w A.in1 _ s1 ⟨hT,rfl,hok⟩))) fun r2 s2 hr2=>?_
   cases r2 with
   | error e=>exact hr2
   | ok fl2 =>
    cases fl2 with
    | ret r =>
     (refine o0_2 hr2 fun y8_0 hq=>?_; try clear hr2; subst y8_0)
     repeat (any_goals (first | assumption | wp_step))
    | _=>exact hr2.elim
  | _=>exact hr.elim
end
end W1
namespace W1
open PySem PySem.Spec PyProof.Rows L2
def Itf (K:PySem.W.Frag) (a:Addr):It :=
 ⟨fun i H=>∃ (xs:List V) (x:V),SqL K H a xs∧xs[i]? = some x,fun i H v H'=>∃ T x,v = .ref T∧H T = none∧H' = upd H T (.tup [.int ((i + 1:Nat):Int),x])∧∀ xs,SqL K H a xs→xs[i]? = some x,fun i H=>∃ xs:List V,SqL K H a xs∧xs.length≤i⟩
theorem two_of {b e it:Addr} (hb:b ∈ [e,it]):b = e∨b = it:=by simpa using hb
theorem turn_enum1 {P:Program} {w:World} {K:PySem.W.Frag} {elts:List Expr} {kk:Nat} {tpos:Pos} (a e it:Addr) :
  Turn P w K (.Tuple elts kk tpos) (Itf K a) [e,it] e (fun i h=>(∃ old,IsEnum h e it ((i + 1:Nat):Int) old)∧h.IsListIter it a i∧e≠it) where
 mem:=List.mem_cons_self
 obj:=fun i h st b hb=>by
  (refine o0_3 st fun y1_0 y1_1 _=>?_; try clear st; refine o1_1 y1_0 fun old he=>?_; try clear y1_0; refine o1_3 y1_1 fun o ho hc hd=>?_; try clear y1_1)
  rcases two_of hb with rfl | rfl
  ·exact ⟨_,he,fun v q=>nomatch q⟩
  ·exact ⟨o,ho,fun v q=>by rw [hd] at q; cases q⟩
 keep:=fun i h h' st k=>let ⟨⟨old,he⟩,hi,hne⟩:=st; ⟨⟨old,k e (by simp) _ he⟩,hi.at fun o q=>k it (by simp) o q,hne⟩
 item:=by
  intro X hP hw hK hc i pins s σ H E I hf st hg
  subst hP hw hK
  (refine o0_3 st fun y4_0 hit hne=>?_; try clear st; refine o1_1 y4_0 fun old he=>?_; try clear y4_0)
  (refine o2_2 hg fun xs x hq hx=>?_; try clear hg)
  refine o1_3 (I.list hq) fun its rv p hz=>?_
  refine o1_2 (rv.get hx) fun u hu ru=>?_
  have hel:e < s.heap.objs.size:=Heap.lt_size he
  have hil:it < s.heap.objs.size:=by (refine o1_2 hit fun _ q _=>?_; try clear hit); exact Heap.lt_size q
  refine en_item he hit p.isList (x:=u) (by simpa using hu) hne fun h' ho hit' hT hsz hk=>?_
  refine ⟨_,rfl,wpAny_letOwnedTupleGo_enum (s:={ s with heap:=h',toks:=s.toks + 1 }) ho fun h'' he' sb=>?_⟩
  have keep:∀ b ob,b ∉ [e,it]→s.heap.get? b = some ob→h''.get? b = some ob:=fun b ob hb q=>(sb.2 b (fun z=>hb (by simp [z]))).trans (hk b ob (fun z=>hb (by simp [z])) (fun z=>hb (by simp [z])) q)
  have new:ObjOk X.prog X.w (upd H s.heap.objs.size (.tup [.int ((i + 1:Nat):Int),x])) h'' s.heap.objs.size (.tup [.int ((i + 1:Nat):Int),x]) :=
   ⟨by show 2≤sizeLine; decide,[.int ((i + 1:Nat):Int) s.toks,u],.cons ⟨_,rfl⟩ (.cons ru .nil),⟨_,(sb.2 _ (Nat.ne_of_gt hel)).trans hT,rfl,_,rfl⟩⟩
  refine ⟨.ref s.heap.objs.size,_,I.turnedNew (ch:=[e,it]) (t':=s.toks + 1) keep hf (Nat.le_refl _) new,rfl,⟨_,x,rfl,I.hok.fresh (Nat.le_refl _),rfl,fun ys hy=>by rw [I.list_inj hy hq]; exact hx⟩,⟨⟨u,?_⟩,hit'.at fun o q=>(sb.2 it (Ne.symm hne)).trans q,hne⟩,fun b hb=>?_⟩
  ·have e1:((i + 1 + 1:Nat):Int) = ((i + 1:Nat):Int) + 1:=by omega
   rw [e1]; exact he'
  ·have hb':b < s.heap.objs.size:=by
    rcases two_of hb with rfl | rfl
    ·exact hel
    ·exact hil
   rw [upd_ne (Nat.ne_of_lt hb')]
   exact (hf b hb).1
 done:=by
  intro X hP hw hK hc i pins s σ H E I hf st hg
  subst hP hw hK
  (refine o0_3 st fun y10_0 hit hne=>?_; try clear st; refine o1_1 y10_0 fun old he=>?_; try clear y10_0)
  (refine o1_2 hg fun xs hq hx=>?_; try clear hg)
  refine o1_3 (I.list hq) fun its rv p hz=>?_
  refine o0_6 (hf it (by simp)) fun f0 f1 f2 f3 f4 f5=>?_
  have hl:=rv.length
  exact en_end (I.ok.hd hc) he hit p.isList (by simp; omega) fun h' eb=>⟨rfl,I.turned (t':=s.toks) (fun b o hb q=>eb b o hb q) f0 f1 f3 f4 f5⟩
 self:=fun A i s Q E st h=>let ⟨⟨_,he⟩,_⟩:=st; wpAny_pyIter_enum he h
def iEnum1 (K:PySem.W.Frag) (ta:TA) (te:TE):TI:=fun σ H R=>ta σ H fun vs H1=>te σ H1 fun v H2=>∃ a xs,vs = [.ref a]∧v = .int 1∧SqL K H2 a xs∧R (Itf K a) H2
theorem pi_enum1 {X:Cx} {e e1:Expr} {ta:TA} {te:TE} {p pos tpos kp:Pos} {elts:List Expr} {kk:Nat} (hg:Gl X "enumerate") (hm:X.mg "enumerate" = none) (ha:PA X [e] ta) (h1:PE X e1 te)
  (hs:starEach [e] X.env = [(false,eval e X.env)]:=by rfl):PI X (.Tuple elts kk tpos) (.Call (.Name "enumerate" p) [e] [⟨some "start",e1,kp⟩] pos) (iEnum1 X.K ta te):=by
 intro pins s σ H R I h
 have hb:backTo pos (starEach [e] X.env) = [(false,eval e X.env)]:=by rw [hs]; rfl
 have he:eval (.Call (.Name "enumerate" p) [e] [⟨some "start",e1,kp⟩] pos) X.env = (do callWith pos (← eval (.Name "enumerate" p) X.env) [] (backTo pos (starEach [e] X.env)) (backToKw pos (keywordEach [⟨some "start",e1,kp⟩] X.env))):=by rfl
 rw [he]
 refine wpAny_bind (ld_blt I hg hm boot_enumerate (callWith_type_kw (kws:=[⟨some "start",e1,kp⟩]) (thn (ha pos pins s σ H _ I h) fun us s1 ⟨vs,H1,I1,r1,q1⟩=>?_) hb (by rw [hb]; rfl)))
 refine kws_cons (thn (h1 pins s1 σ H1 _ I1 q1) fun w s2 ⟨v,H2,I2,r2,a,xs,ex,ev,hq,q⟩=>kws_nil ?_)
 subst ex ev
 (refine o1_1 r2 fun t y15_1=>?_; try clear r2; subst y15_1)
 cases r1 with
 | cons r rr =>
  cases rr
  cases r
  refine o1_3 (I2.list hq) fun its rv p' hz=>?_
  refine enum_kw p'.isList fun h' he hit hsz hk=>wpAny_pyIter_enum he ?_
  refine ⟨s2.heap.objs.size + 1,[s2.heap.objs.size + 1,s2.heap.objs.size],_,_,H2,rfl,I2.kept (t':=s2.toks) hk,turn_enum1 a (s2.heap.objs.size + 1) s2.heap.objs.size,⟨⟨.none,he⟩,hit,Nat.succ_ne_self _⟩,fun b hb=>?_,q⟩
  have hle:s2.heap.objs.size≤b:=by
   rcases two_of hb with rfl | rfl
   ·exact Nat.le_add_right _ _
   ·exact Nat.le_refl _
  exact I2.fpOk hle (I2.hok.fresh hle)
theorem for_enum1 {K:PySem.W.Frag} {a:Addr} {xs:List V} {g:TG} {tb:TS} {D:Ends} {σ:L2.St} {H:Hp} (Pv:Nat→L2.St→Hp→Prop) (h0:Pv 0 σ H) (hl:∀ i σ H,i≤xs.length→Pv i σ H→SqL K H a xs)
  (hs:∀ i x T σ H,xs[i]? = some x→Pv i σ H→H T = none→g (.ref T) σ (upd H T (.tup [.int ((i + 1:Nat):Int),x])) fun σ2 H2=>tb { D with nx:=Pv (i + 1),ct:=Pv (i + 1),bk:=D.nx } σ2 H2) (hd:∀ σ H,Pv xs.length σ H→D.nx σ H) :
  ∃ W:Nat→Nat→L2.St→Hp→Prop,(∃ m,W 0 m σ H)∧∀ i m σ H,W i m σ H →
   ((Itf K a).stop i H∧D.nx σ H)∨((Itf K a).go i H∧∃ N:L2.St→Hp→Prop,(∀ σ' H',N σ' H'→∃ m',m' < m∧W (i + 1) m' σ' H')∧∀ x H',(Itf K a).yld i H x H'→g x σ H' fun σ2 H2=>tb { D with nx:=N,ct:=N,bk:=D.nx } σ2 H2):=by
 refine ⟨fun i m σ H=>m = xs.length - i∧i≤xs.length∧Pv i σ H,⟨xs.length,by simp,Nat.zero_le _,h0⟩,?_⟩
 (intro i m σ H oi17; refine o0_3 oi17 fun y18_0 hi p=>?_; try clear oi17; subst y18_0)
 have q:=hl i σ H hi p
 by_cases hlt:i < xs.length
 ·refine .inr ⟨⟨xs,xs[i],q,by simp [hlt]⟩,Pv (i + 1),fun σ' H' p'=>⟨xs.length - (i + 1),by omega,rfl,hlt,p'⟩,fun v H' y=>?_⟩
  obtain ⟨T,x,rfl,hT,rfl,y⟩:=y
  exact hs i x T σ H (y xs q) p hT
 ·have e:i = xs.length:=by omega
  subst e
  exact .inl ⟨⟨xs,q,Nat.le_refl _⟩,hd σ H p⟩
theorem bo_any:bootBuiltins "any" = some (.builtin "any"):=by decide +kernel
theorem bo_tuple:bootBuiltins "tuple" = some (.type "tuple"):=by decide +kernel
theorem call_len_seqK {X:Cx} {K:PySem.W.Frag} (hK:X.K = K):CallR X (.builtin "len") (fun xs H Q=>∃ p ys,xs = [.ref p]∧(SqL K H p ys∨SqT K H p ys)∧Q (.int ys.length) H):=by
 subst hK
 exact call_len_seq
end W1
namespace W1
open PySem PySem.Spec PyProof.Rows L2
section
variable {prog:Program} {w:World} {K:Type} [DecidableEq K] {knd:HeapKind prog w K} {A:Around} {E:Value→Shared→Prop} {s:Shared}
theorem setdef_heap {d a:Addr} {xs:List (K × Addr × Value)} {k:K} {dflt:Value} {Q:Value→Shared→Prop} (hu:knd.room A) (hkey:knd.is s.heap k a) (hm:s.heap.DictOfH knd d xs)
  (h1:∀ p,atKey xs k = some p→Q p.2 { s with toks:=s.toks + knd.draws k })
  (h2:atKey xs k = none→∀ h',h'.DictOfH knd d (storedH xs k a dflt)→Heap.SameBut d s.heap h'→Q dflt { s with heap:=h',toks:=s.toks + knd.draws k })
  (hsz:xs.length≤sizeLine):wpAny (model prog w) A (dictSetDefault d (.ref a) dflt) Q E s:=by
 refine o3_6 hm fun o es ep ho hc hd he his hn=>?_
 unfold dictSetDefault
 try with_reducible refine wpAny_holding ?_
 refine wpAny_bind (knd.pyHash hu hkey (wpAny_bind (wpAny_dictFind_heap (s:={ s with toks:=s.toks + knd.draws k }) hu hkey ho hd he his hn (fun hno=>?_) fun j p hj=>?_)))
 ·have hat:=atKey_none_of_get hno
  have hnot:k ∉ xs.map (·.1):=not_mem_keys_of_get hno
  refine wpAny_bind (wpAny_rule (wpAny_bind (wpAny_updateDictKeys (hz:=by have e:=size_of_entries he; omega) (s:={ s with toks:=s.toks + knd.draws k }) ho hd (wpAny_pure (h2 hat _
   ⟨_,_,ep + 1,Heap.get?_update_self _ ho (Obj.isFreed_of_dict (Obj.data_mapDictKeys hd _)),hc.mapDictKeys _,Obj.data_mapDictKeys hd _,?_,fun x hx=>?_,?_⟩ (Heap.SameBut.update ..))))))
  ·rw [storedH_new hat]
   simp [he,entryOfKey]
  ·rw [storedH_new hat] at hx
   rcases List.mem_append.mp hx with hx | hx
   ·exact knd.keeps (his x hx) ho hd (Heap.SameBut.update ..)
   ·obtain rfl:=List.mem_singleton.mp hx
    exact knd.keeps hkey ho hd (Heap.SameBut.update ..)
  ·rw [storedH_new hat,List.map_append,List.nodup_append]
   refine ⟨hn,by simp,fun x hx y hy=>?_⟩
   have e:y = k:=by simpa using hy
   exact fun z=>hnot (by rw [← e,← z]; exact hx)
 ·have hat:=atKey_of_get hn hj
  refine wpAny_bind (wpAny_dictEntries (s:={ s with toks:=s.toks + knd.draws k }) ho hd ?_)
  rw [entry_at he j,hj]
  exact wpAny_bind (wpAny_rule (wpAny_pure (h1 p hat)))
theorem meets_setdefH (knd:HeapKind prog w K) (d a:Addr) (hd:(d == sysModules) = false) (dflt:Value) :
  MeetsIn prog w (Builtin.«dict.setdefault» ⟨[.ref d,.ref a,dflt],[]⟩) (fun A R s=>knd.room A.in1∧∃ k xs,knd.is s.heap k a∧s.heap.DictOfH knd d xs∧xs.length≤sizeLine ∧
   (∀ p,atKey xs k = some p→R (.ok (.ret p.2)) { s with toks:=s.toks + knd.draws k }) ∧
   (atKey xs k = none→∀ h',h'.DictOfH knd d (storedH xs k a dflt)→Heap.SameBut d s.heap h'→R (.ok (.ret dflt)) { s with heap:=h',toks:=s.toks + knd.draws k })) :=
 .of_wp fun A R s ⟨hu,k,xs,hk,hm,hz,h1,h2⟩=>by
  unfold Builtin.«dict.setdefault»
  refine wpAny_bind ?_
  unfold Builtin.Dict.keyAndDefault
  refine wpAny_bind (wpAny_notOrdered_dict hm.typeIs ?_)
  show wpAny _ _ (pure (d,Value.ref a,some dflt)) _ _ s
  refine wpAny_pure ?_
  show wpAny _ _ (if (d == sysModules) = true then _ else (dictSetDefault d (.ref a) dflt >>= _)) _ _ s
  rw [if_neg (by rw [hd]; exact Bool.false_ne_true)]
  exact wpAny_bind (setdef_heap hu hk hm (fun p hp=>wpAny_pure ⟨_,rfl,h1 p hp⟩) (fun hn h' hm' hs'=>wpAny_pure ⟨dflt,rfl,h2 hn h' hm' hs'⟩) hz)
end
section
variable {X:Cx}
def rSetdefT:V→List V→Hp→VK→Prop:=fun x xs H Q=>∃ (a b:Addr) (kvs:List (List Key × V)) (k:List Key) (v:V),x = .ref a∧xs = [.ref b,v]∧H a = some (.dT kvs)∧H b = some (.tup (k.map kV))∧kvs.length < sizeLine ∧
 (∀ y,valV kvs k = some y→Q y H)∧(valV kvs k = none→Q v (upd H a (.dT (putK kvs k v))))
theorem mt_setdefT (hu:X.A.units + 64 < cLine):MtR X "dict.setdefault" rSetdefT:=by
 intro pins s σ H x xs v us Q I rx rs h
 (refine o5_7 h fun a b kvs k dv y2_5 y2_6 hH hb hl h1 h2=>?_; subst y2_5; subst y2_6)
 cases rx
 (refine o2_3 rs.two fun u d y3_2 ru rd=>?_; subst y3_2)
 cases (show u = Value.ref b from ru)
 obtain ⟨z,hd,ys,rel,dd⟩:=dt_of I.hok hH
 have hz:ys.length≤sizeLine:=by rw [← Paired.length rel]; exact z
 refine call_meetsIn PySem.F.slot_dict_setdefault dd.typeIs PySem.F.entry_dict_setdefault (PySem.F.args_dict_setdefault_3 _ _ _) (meets_setdefH (tupleKind (mixKind X.prog X.w)) a b hd d)
  ⟨tupleKind_room_in1 (by omega),k,ys,key_of I.hok hb,dd,hz,fun p hp=>?_,fun hn h' dd' hs=>?_⟩
 ·have r:=rel.val k
  rw [hp] at r
  cases e:valV kvs k with
  | none=>rw [e] at r; exact r.elim
  | some y=>rw [e] at r; exact ⟨y,H,I.tok _,r,h1 y e⟩
 ·have r:=rel.val k
  rw [hn] at r
  have e:valV kvs k = none:=by
   cases e:valV kvs k with
   | none=>rfl
   | some y=>rw [e] at r; exact r.elim
  have hl':(putK kvs k dv).length≤sizeLine:=by have:=length_putK kvs k dv; omega
  refine o3_6 dd' fun q es ep hq g2 g3 g4 _ g5=>?_
  refine ⟨dv,_,d_write (ob:=.dT (putK kvs k dv)) I (by rw [hH]; exact True.intro) hs ⟨q,hq⟩ ⟨hl',hd,_,(rel.put k hb rd).keeps fun c zs ec=>?_,q,es,ep,hq,g2,g3,g4,g5⟩,rd,h2 e⟩
  rw [upd_ne (ne_of ec hH (fun z=>nomatch z))]
  exact ec
end
end W1
namespace W1
open PySem PySem.Spec PyProof.Rows L2
section
variable {X:Cx} {pins:List (Addr × Obj)} {σ:L2.St} {A:Around} {E:Value→Shared→Prop}
theorem loop_list {S it:Addr} {res:Value} {fp:List Addr} {n:Nat} {tn:Nat→Heap→Prop} {Pv:Nat→List V→Hp→Prop} {R:Result→Shared→Prop} (hn:n≤sizeLine) (hSf:S ∉ fp)
  (keep:∀ i h h',tn i h→(∀ b o,b≠S→h.get? b = some o→h'.get? b = some o)→tn i h')
  (item:∀ i s H xs E,i < n→Inv X pins σ H s→(∀ b ∈ fp,FpOk X pins H b)→tn i s.heap→H S = some (.lst xs)→Pv i xs H→wpAny (model X.prog X.w) A.in1 (pyNext (.ref it)) (fun r s1=>∃ u x H',r = some u∧Inv X pins σ H' s1∧RelV x u ∧
   H' S = some (.lst xs)∧tn (i + 1) s1.heap∧(∀ b ∈ fp,H' b = none)∧Pv (i + 1) (xs ++ [x]) (upd H' S (.lst (xs ++ [x])))) E s)
  (done:∀ s H xs E,Inv X pins σ H s→(∀ b ∈ fp,FpOk X pins H b)→tn n s.heap→H S = some (.lst xs)→Pv n xs H→wpAny (model X.prog X.w) A.in1 (pyNext (.ref it)) (fun r s1=>r = none∧Inv X pins σ H s1) E s)
  (hR:∀ s H xs,Inv X pins σ H s→H S = some (.lst xs)→Pv n xs H→R (.ok (.ret res)) s) :
  ∀ (k i:Nat) (s:Shared) (H:Hp) (xs:List V),n - i = k→i≤n→Inv X pins σ H s→(∀ b ∈ fp,FpOk X pins H b)→tn i s.heap→H S = some (.lst xs)→xs.length = i→Pv i xs H →
   codeAny (model X.prog X.w) A (.builtin "list.extend.loop" ⟨[.ref S,.ref it,res],[]⟩) R s:=by
 intro k
 induction k with
 | zero =>
  intro i s H xs hk hi I hf ht hS hl hP
  have e:i = n:=by omega
  subst e
  refine codeAny_builtin F.entry_extend_loop ?_
  rw [Around.under_plainId F.plain_extend_loop _]
  show wpAny _ A.in1 (pyNext (.ref it) >>= _) _ _ s
  refine wpAny_bind (thn (done s H xs _ I hf ht hS hP) fun r s1 ⟨hr,I1⟩=>?_)
  subst hr
  exact wpAny_pure (hR s1 H xs I1 hS hP)
 | succ k ih =>
  intro i s H xs hk hi I hf ht hS hl hP
  have hlt:i < n:=by omega
  refine codeAny_builtin F.entry_extend_loop ?_
  rw [Around.under_plainId F.plain_extend_loop _]
  show wpAny _ A.in1 (pyNext (.ref it) >>= _) _ _ s
  refine wpAny_bind (thn (item i s H xs _ hlt I hf ht hS hP) fun r s1 ⟨u,x,H',hr,I1,ru,hS1,ht1,hf1,hP1⟩=>?_)
  subst hr
  refine o2_3 (I1.lst hS1) fun its c rv ho hz=>?_
  have hlen:its.length = i:=by rw [← hl,rv.length]
  show wpAny _ A.in1 (updateSeq S (·.push u) >>= _) _ _ _
  have hz2:(xs ++ [x]).length≤sizeLine:=by rw [List.length_append,hl]; simp; omega
  have I2:Inv X pins σ (upd H' S (.lst (xs ++ [x]))) { s1 with heap:=s1.heap.update S (Obj.mapSeq (·.push u)),toks:=s1.toks } :=
   I1.lstUpd (its':=its ++ [u]) (n':=(match (Obj.mapSeq (·.push u) { cls:=.type "list",data:=.seq its.toArray c }).data with | .seq _ n=>n | _=>0)) hS1 ho (by simp [Obj.mapSeq]) (rv.append (.cons ru .nil)) hz2 s1.toks
  refine wpAny_bind (wpAny_updateSeq ho rfl (wpAny_pure ⟨plainId_quiet F.plain_extend_loop _,ih (i + 1) _ _ (xs ++ [x]) (by omega) hlt I2 (fun b hb=>?_) (keep _ _ _ ht1 fun b o hb e=>?_) upd_same (by rw [List.length_append,hl]; rfl) hP1⟩)
   (by rw [List.size_toArray,hlen]; omega) (by show (its.toArray.push u).size≤sizeLine + 1; rw [Array.size_push,List.size_toArray,hlen]; omega))
  ·have nb:b≠S:=fun z=>hSf (by rw [← z]; exact hb)
   exact ⟨by rw [upd_ne nb]; exact hf1 b hb,(hf b hb).2⟩
  ·exact (Heap.get?_update_other _ _ (Ne.symm hb)).trans e
theorem touch_ok {S:Addr} {H:Hp} {s:Shared} {Q:Unit→Shared→Prop} (I:Inv X pins σ H s) (hS:H S = some (.lst [])) (hQ:∀ h',Inv X pins σ H { s with heap:=h' }→(∀ b o,b≠S→s.heap.get? b = some o→h'.get? b = some o)→Q () { s with heap:=h' }) :
  wpAny (model X.prog X.w) A (Builtin.List.listTouch (.ref S)) Q E s:=by
 refine o2_3 (I.lst hS) fun its c rv ho hz=>?_
 cases rv
 show wpAny _ A (updateSeq S (·.push .none) >>= fun _=>updateSeq S (·.pop)) _ _ _
 refine wpAny_bind (wpAny_updateSeq ho rfl ?_)
 have h2:=Heap.get?_update_self (Obj.mapSeq (·.push Value.none)) ho rfl
 refine wpAny_updateSeq (hz:=by seq_fits) h2 rfl ?_
 have h3:=Heap.get?_update_self (Obj.mapSeq (·.pop)) h2 rfl
 have oth:∀ b o,b≠S→s.heap.get? b = some o→((s.heap.update S (Obj.mapSeq (·.push Value.none))).update S (Obj.mapSeq (·.pop))).get? b = some o :=
  fun b o hb e=>(Heap.get?_update_other _ _ (Ne.symm hb)).trans ((Heap.get?_update_other _ _ (Ne.symm hb)).trans e)
 have I2:Inv X pins σ (upd H S (.lst [])) { s with heap:=(s.heap.update S (Obj.mapSeq (·.push Value.none))).update S (Obj.mapSeq (·.pop)),toks:=s.toks } :=
  I.write (x:=S) (e:=S) (by rw [hS]; trivial) (.inl rfl) oth ⟨_,h3⟩ ⟨Nat.zero_le _,[],_,.nil,h3⟩
 have e:upd H S (.lst []) = H:=by
  funext b
  by_cases z:b = S
  ·rw [z,upd_same,hS]
  ·rw [upd_ne z]
 rw [e] at I2
 exact hQ _ I2 oth
theorem list_of_it {r:Addr} {T:String} {o:Obj} {H:Hp} {s:Shared} {Q:Value→Shared→Prop} {n:Nat} {Pv:Nat→List V→Hp→Prop} (hn:n≤sizeLine) (I:Inv X pins σ H s) (ho:s.heap.get? r = some o) (hc:o.cls = .type T)
  (hl:(Value.type T == Value.type "list") = false) (ht:(Value.type T == Value.type "tuple") = false) (h0:∀ S,H S = none→Pv 0 [] (upd H S (.lst [])))
  (start:∀ (S:Addr) (s1:Shared) (E:Value→Shared→Prop) (Q:Value→Shared→Prop),H S = none→Inv X pins σ (upd H S (.lst [])) s1→(∀ b o,s.heap.get? b = some o→s1.heap.get? b = some o) →
   (∀ (it:Addr) (fp:List Addr) (tn:Nat→Heap→Prop) (s2:Shared),Inv X pins σ (upd H S (.lst [])) s2→(∀ b o,s.heap.get? b = some o→s2.heap.get? b = some o)→(∀ b ∈ fp,FpOk X pins (upd H S (.lst [])) b)→tn 0 s2.heap →
    (∀ i h h',tn i h→(∀ b o,b≠S→h.get? b = some o→h'.get? b = some o)→tn i h') →
    (∀ i s H' xs E,i < n→Inv X pins σ H' s→(∀ b ∈ fp,FpOk X pins H' b)→tn i s.heap→H' S = some (.lst xs)→Pv i xs H'→wpAny (model X.prog X.w) A.in1.in1 (pyNext (.ref it)) (fun r s1=>∃ u x H'',r = some u∧Inv X pins σ H'' s1∧RelV x u ∧
     H'' S = some (.lst xs)∧tn (i + 1) s1.heap∧(∀ b ∈ fp,H'' b = none)∧Pv (i + 1) (xs ++ [x]) (upd H'' S (.lst (xs ++ [x])))) E s) →
    (∀ s H' xs E,Inv X pins σ H' s→(∀ b ∈ fp,FpOk X pins H' b)→tn n s.heap→H' S = some (.lst xs)→Pv n xs H'→wpAny (model X.prog X.w) A.in1.in1 (pyNext (.ref it)) (fun r s1=>r = none∧Inv X pins σ H' s1) E s) →
    Q (.ref it) s2)→wpAny (model X.prog X.w) A.in1.in1 (pyIter (.ref r)) Q E s1)
  (hint:∀ (S:Addr) (s1:Shared) (E:Value→Shared→Prop) (Q:Bool→Shared→Prop),s1.heap.get? r = some o→(∀ b,Q b s1)→wpAny (model X.prog X.w) A.in1.in1 (Builtin.List.listLengthHint (.ref r)) Q E s1)
  (hQ:∀ S s' H' xs,H S = none→Inv X pins σ H' s'→H' S = some (.lst xs)→Pv n xs H'→Q (.ref S) s'):wpAny (model X.prog X.w) A (call (.type "list") [.ref r]) Q E s:=by
 refine callType_codes (Q₁:=fun obj s1=>obj = .ref s.heap.objs.size∧s1 = { s with heap:=s.heap.push { cls:=.type "list",data:=.seq #[] } }) F.called_list (F.typeCall_list_1 _) F.entry_list_init (code_list_new _ ⟨rfl,rfl⟩) fun obj s1 h1=>?_
 (refine o0_2 h1 fun y3_0 y3_1=>?_; try clear h1; subst y3_0; subst y3_1)
 have hSn:H s.heap.objs.size = none:=I.hok.fresh (Nat.le_refl _)
 generalize hSz:s.heap.objs.size = S at hSn
 have hS:(s.heap.push { cls:=.type "list",data:=.seq #[] }).get? S = some { cls:=.type "list",data:=.seq #[] }:=by rw [← hSz]; exact Heap.get?_push_size _ rfl
 have hrS:r≠S:=by rw [← hSz]; exact Nat.ne_of_lt (Heap.lt_size ho)
 have I1:Inv X pins σ (upd H S (.lst [])) { s with heap:=s.heap.push { cls:=.type "list",data:=.seq #[] },toks:=s.toks }:=by
  refine I.laid (fun b u q=>Heap.get?_push_of_some _ q) (Nat.le_of_eq hSz) ⟨Nat.zero_le _,[],0,.nil,?_⟩
  exact hS
 refine ⟨⟨_,hS,rfl⟩,F.args_list_init_2 _ _,?_⟩
 show wpAny _ _ (do let old ← Builtin.List.listItems (.ref S); Builtin.List.listUpdate (.ref S) (fun _=>#[]); letGo old.toList.reverse; Builtin.List.listExtendWith (.ref S) (.ref r) .none) _ _ _
 refine wpAny_bind ?_
 unfold Builtin.List.listItems
 refine wpAny_bind (wpAny_seqItems hS rfl (wpAny_pure ?_))
 show wpAny _ _ (updateSeq S (fun _=>#[]) >>= fun _=>letGo (#[]:Array Value).toList.reverse >>= fun _=>Builtin.List.listExtendWith (.ref S) (.ref r) .none) _ _ _
 refine wpAny_bind (wpAny_updateSeq hS rfl ?_)
 have hS2:=Heap.get?_update_self (Obj.mapSeq (fun _=>(#[]:Array Value))) hS rfl
 generalize hh2:(s.heap.push { cls:=.type "list",data:=.seq #[] }).update S (Obj.mapSeq (fun _=>(#[]:Array Value))) = h2 at hS2
 have oth:∀ b o,b≠S→(s.heap.push { cls:=.type "list",data:=.seq #[] }).get? b = some o→h2.get? b = some o:=fun b o hb e=>by rw [← hh2]; exact (Heap.get?_update_other _ _ (Ne.symm hb)).trans e
 have all2:∀ b o,s.heap.get? b = some o→h2.get? b = some o:=fun b o e=>oth b o (by rw [← hSz]; exact Nat.ne_of_lt (Heap.lt_size e)) (Heap.get?_push_of_some _ e)
 have I2:Inv X pins σ (upd H S (.lst [])) { s with heap:=h2,toks:=s.toks }:=by
  have:=I1.write (x:=S) (e:=S) (o:=.lst []) (h':=h2) (t':=s.toks) (by rw [upd_same]; trivial) (.inl rfl) oth ⟨_,hS2⟩ ⟨Nat.zero_le _,[],_,.nil,hS2⟩
  have e:upd (upd H S (.lst [])) S (.lst []) = upd H S (.lst []):=by
   funext b
   by_cases z:b = S
   ·rw [z,upd_same,upd_same]
   ·rw [upd_ne z]
  rw [e] at this
  exact this
 refine wpAny_bind (wpAny_letGo ?_)
 unfold Builtin.List.listExtendWith
 refine wpAny_bind (wpAny_typeOf (T:=T) (s:={ s with heap:=h2 }) ⟨o,all2 r o ho,hc⟩ ?_)
 have g1:Builtin.List.listSameRef (.ref S) (.ref r) = false:=by simp [Builtin.List.listSameRef,Ne.symm hrS]
 simp only [g1,hl,ht,Bool.or_false,Bool.false_eq_true,if_false]
 refine wpAny_bind (start S { s with heap:=h2 } _ _ hSn I2 all2 fun it fp tn s2 I3 all3 hf htn keep item done=>?_)
 have hSf:S ∉ fp:=fun z=>by
  have q:=(hf S z).1
  rw [upd_same] at q
  cases q
 refine wpAny_bind (wpAny_holding (hint S s2 _ _ (all3 r o ho) fun b=>?_))
 have go:∀ s3,Inv X pins σ (upd H S (.lst [])) s3→tn 0 s3.heap→codeAny (model X.prog X.w) A.in1 (.builtin "list.extend.loop" ⟨[.ref S,.ref it,.none],[]⟩) (wants (fun r s₂=>r = .none∧Q (.ref S) s₂) E) s3:=fun s3 I4 ht4 =>
  loop_list (A:=A.in1) hn hSf keep item done (fun s H' xs I5 hS5 hP5=>⟨rfl,hQ S s H' xs hSn I5 hS5 hP5⟩) n 0 s3 _ [] rfl (Nat.zero_le _) I4 hf ht4 upd_same rfl (h0 S hSn)
 refine wpAny_ite_split (fun _=>?_) (fun _=>wpAny_pure ⟨plainId_quiet F.plain_extend_loop _,go s2 I3 htn⟩)
 refine wpAny_bind (wpAny_rule (wpAny_bind (touch_ok I3 upd_same fun h' I4 k4=>wpAny_pure ⟨plainId_quiet F.plain_extend_loop _,go _ I4 (keep _ _ _ htn k4)⟩)))
end
end W1
namespace W1
open PySem PySem.Spec PyProof.Rows L2
theorem zip_no_len:typeLookup (.type "zip") "__len__" = pure none:=by rw [typeLookup_type,builtinLookup_eq_fast]; kernel_rfl
theorem zip_no_hint:typeLookup (.type "zip") "__length_hint__" = pure none:=by rw [typeLookup_type,builtinLookup_eq_fast]; kernel_rfl
abbrev IsZ (h:Heap) (z TI TO:Addr) (f0 f1:Value):Prop:=h.get? z = some { cls:=.type "zip",dict:=none,data:=.fields #[f0,f1,.bool false,.ref TI,.ref TO],slots:=#[] }
def SIt (tu:Bool) (h:Heap) (it l:Addr) (k:Nat):Prop:=if tu = true then h.IsTupleIter it l k else h.IsListIter it l k
def SSq (tu:Bool) (h:Heap) (l:Addr) (items:Array Value):Prop:=if tu = true then h.IsTuple l items else h.IsList l items
theorem SIt.extBut {tu:Bool} {h h':Heap} {it l b:Addr} {k:Nat} (x:SIt tu h it l k) (hs:Heap.ExtBut b h h') (n:it≠b):SIt tu h' it l k:=by
 cases tu
 ·exact Heap.IsListIter.extBut (h:=h) x hs n
 ·exact Heap.IsTupleIter.extBut (h:=h) x hs n
theorem SIt.at {tu:Bool} {h h':Heap} {it l:Addr} {k:Nat} (x:SIt tu h it l k) (e:∀ o,h.get? it = some o→h'.get? it = some o):SIt tu h' it l k:=by
 cases tu
 ·exact let ⟨o,ho,r⟩:=x; ⟨o,e o ho,r⟩
 ·exact let ⟨o,ho,r⟩:=x; ⟨o,e o ho,r⟩
theorem SIt.obj {tu:Bool} {h:Heap} {it l:Addr} {k:Nat} (x:SIt tu h it l k):∃ o,h.get? it = some o∧∀ v,o.data≠.cell v:=by
 cases tu
 ·exact let ⟨o,ho,_,d⟩:=x; ⟨o,ho,fun v q=>by rw [d] at q; cases q⟩
 ·exact let ⟨o,ho,_,d⟩:=x; ⟨o,ho,fun v q=>by rw [d] at q; cases q⟩
theorem SSq.at {tu:Bool} {h h':Heap} {l:Addr} {items:Array Value} (x:SSq tu h l items) (e:∀ o,h.get? l = some o→h'.get? l = some o):SSq tu h' l items:=by
 cases tu
 ·exact let ⟨o,ho,r⟩:=x; ⟨o,e o ho,r⟩
 ·exact let ⟨o,ho,r⟩:=x; ⟨o,e o ho,r⟩
section
variable {prog:Program} {w:World} {A:Around} {E:Value→Shared→Prop} {s:Shared}
theorem wpAny_alive {M:Model} {a:Addr} {o:Obj} {Q:Option Obj→Shared→Prop} (ho:s.heap.get? a = some o) (h:Q (some o) s):wpAny M A (loadIfAlive a) Q E s:=fun Γ p _=>by
 unfold loadIfAlive
 rw [Sem.wp_loadIfAlive,ho,Sem.wp_pure]
 exact h
theorem nx_item {tu:Bool} {it l:Addr} {i:Nat} {items:Array Value} {x:Value} {Q:Value→Shared→Prop} (hit:SIt tu s.heap it l i) (hl:SSq tu s.heap l items) (hx:items[i]? = some x)
  (hQ:∀ h',SIt tu h' it l (i + 1)→Heap.SameBut it s.heap h'→Q x { s with heap:=h' }):wpAny (model prog w) A (Builtin.SmallTypes.nextOf (.ref it)) Q E s:=by
 cases tu with
 | false=>exact wpAny_nextOf_list_item hit hl hx hQ
 | true =>
  refine o1_3 (id hit) fun o ho hc hd=>?_
  obtain ⟨ol,hol,_,nl,hdl⟩:=hl
  have hty:s.TypeIs (.ref it) "tuple_iterator":=⟨o,ho,hc⟩
  unfold Builtin.SmallTypes.nextOf
  refine wpAny_bind (wpAny_callSpecial?_slot (name:=Str.ofString "__next__") hty F.slot_tuple_iterator_next (wpAny_call_entry F.slot_tuple_iterator_next hty F.entry_tuple_iterator_next ?_ (F.args_tuple_iterator_next_1 _)))
  show wpAny _ _ (field (.ref it) 0 >>= _) _ _ s
  refine wpAny_bind (wpAny_field ho hd (x:=.ref l) rfl ?_)
  show wpAny _ _ (if (Value.ref l == Value.none) = true then _ else _) _ _ s
  rw [if_neg (show ¬ ((Value.ref l == Value.none) = true) from Bool.false_ne_true)]
  show wpAny _ _ (field (.ref it) 1 >>= _) _ _ s
  refine wpAny_bind (wpAny_field ho hd (x:=.int i 0) rfl ?_)
  show wpAny _ _ (seqItems? (.ref l) >>= _) _ _ s
  refine wpAny_bind (wpAny_seqItems hol hdl ?_)
  simp only [Int.toNat_natCast,hx]
  refine wpAny_bind (wpAny_setField ho hd (by simp) (wpAny_pure ⟨x,rfl,wpAny_pure (hQ _ ?_ (Heap.SameBut.update ..))⟩))
  exact ⟨_,Heap.get?_update_self _ ho (Obj.isFreed_of_fields (Obj.data_mapFields hd _)),(Obj.cls_mapFields ..).trans hc,by rw [Obj.data_mapFields hd]; simp [rawInt]⟩
theorem nx_end {tu:Bool} {it l:Addr} {i:Nat} {items:Array Value} {Q:Value→Shared→Prop} (hh:A.handled = none) (hit:SIt tu s.heap it l i) (hl:SSq tu s.heap l items) (hx:items[i]? = none)
  (hE:∀ h' e,Heap.ExtBut it s.heap h'→(∃ o,h'.get? e = some o∧o.cls = .type "StopIteration")→E (.ref e) { s with heap:=h' }):wpAny (model prog w) A (Builtin.SmallTypes.nextOf (.ref it)) Q E s:=by
 cases tu with
 | false=>exact wpAny_nextOf_list_end hh hit hl hx hE
 | true =>
  refine o1_3 (id hit) fun o ho hc hd=>?_
  obtain ⟨ol,hol,_,nl,hdl⟩:=hl
  have hty:s.TypeIs (.ref it) "tuple_iterator":=⟨o,ho,hc⟩
  unfold Builtin.SmallTypes.nextOf
  refine wpAny_bind (wpAny_callSpecial?_slot (name:=Str.ofString "__next__") hty F.slot_tuple_iterator_next (wpAny_call_entry F.slot_tuple_iterator_next hty F.entry_tuple_iterator_next ?_ (F.args_tuple_iterator_next_1 _)))
  show wpAny _ _ (field (.ref it) 0 >>= _) _ _ s
  refine wpAny_bind (wpAny_field ho hd (x:=.ref l) rfl ?_)
  show wpAny _ _ (if (Value.ref l == Value.none) = true then _ else _) _ _ s
  rw [if_neg (show ¬ ((Value.ref l == Value.none) = true) from Bool.false_ne_true)]
  show wpAny _ _ (field (.ref it) 1 >>= _) _ _ s
  refine wpAny_bind (wpAny_field ho hd (x:=.int i 0) rfl ?_)
  show wpAny _ _ (seqItems? (.ref l) >>= _) _ _ s
  refine wpAny_bind (wpAny_seqItems hol hdl ?_)
  simp only [Int.toNat_natCast,hx]
  refine wpAny_bind (wpAny_rule (wpAny_bind (wpAny_setField ho hd (by simp) ?_)))
  show wpAny _ _ (newExc (.type "StopIteration") [] >>= _) _ _ _
  refine wpAny_bind ?_
  simp only [newExc,newTuple]
  refine wpAny_bind (wpAny_newObj_type ?_ (by size_fits))
  refine wpAny_bind (m:=firstArgMember _ _) (wpAny_of_eq (a:=Value.none) (by first | rfl | (simp only [firstArgMember]; rfl)) ?_)
  refine wpAny_newObj_type ?_ (by size_fits)
  simp only [raiseNew]
  refine wpAny_bind (wpAny_handled ?_)
  first | rw [show A.in1.handled = none from hh] | rw [hh]
  refine wpAny_bind (wpAny_pure (wpAny_throw ?_))
  exact hE _ _ (((Heap.SameBut.update ..).extBut.push _).push _) ⟨_,Heap.get?_push_size _ rfl,rfl⟩
theorem zs_free {tu:Bool} {z TI TO i1 i2 l1 l2:Addr} {k:Nat} {xs ys:Array Value} {x y a b:Value} {Q:Option Value→Shared→Prop} (D:ZipApart z TI TO i1 i2 l1 l2) (hz:IsZ s.heap z TI TO .none (.bool false)) (hTI:IsPair s.heap TI (.ref i1) (.ref i2)) (hTO:IsPair s.heap TO a b)
  (h1:SIt tu s.heap i1 l1 k) (h2:SIt tu s.heap i2 l2 k) (hl1:SSq tu s.heap l1 xs) (hl2:SSq tu s.heap l2 ys) (hx:xs[k]? = some x) (hy:ys[k]? = some y)
  (hQ:∀ h',IsZ h' z TI TO (rawInt s.heap.objs.size) (.bool false)→IsPair h' TO x y→SIt tu h' i1 l1 (k + 1)→SIt tu h' i2 l2 (k + 1)→IsPair h' s.heap.objs.size x y →
   (∀ c o,c≠z→c≠TO→c≠i1→c≠i2→s.heap.get? c = some o→h'.get? c = some o)→Q (some (.ref s.heap.objs.size)) { s with heap:=h' }):wpAny (model prog w) A (pyNext (.ref z)) Q E s:=by
 have hT:s.TypeIs (.ref z) "zip":=⟨_,hz,rfl⟩
 unfold pyNext
 refine wpAny_bind (wpAny_attempt (wpAny_callSpecial?_slot (name:=Str.ofString "__next__") hT F.slot_zip_next (wpAny_call_entry F.slot_zip_next hT F.entry_zip_next ?_ (F.args_zip_next_1 _))))
 show wpAny _ _ (field (.ref z) 2 >>= _) _ _ _
 refine wpAny_bind (wpAny_field hz rfl (x:=.bool false) rfl ?_)
 show wpAny _ _ (field (.ref z) 3 >>= _) _ _ _
 refine wpAny_bind (wpAny_field hz rfl (x:=.ref TI) rfl (wpAny_bind (wpAny_seqItems hTI rfl ?_)))
 show wpAny _ _ (Builtin.SmallTypes.ownedTupleIsFree (.ref z) >>= _) _ _ _
 refine wpAny_bind ?_
 unfold Builtin.SmallTypes.ownedTupleIsFree
 refine wpAny_bind (wpAny_field hz rfl (x:=.none) rfl (wpAny_pure ?_))
 simp only [if_true]
 refine wpAny_bind (wpAny_rule (wpAny_bind (wpAny_field hz rfl (x:=.ref TO) rfl (wpAny_bind (wpAny_setField_rec hz (by simp) fun g1 z1 s1=>?_)))))
 replace z1:IsZ g1 z TI TO .ellipsis (.bool false):=z1
 refine wpAny_bind ?_
 simp only [List.zipIdx_cons,List.zipIdx_nil,List.forIn_cons,List.forIn_nil]
 refine wpAny_bind (wpAny_bind (wpAny_onRaise ?_))
 show wpAny _ _ (Builtin.SmallTypes.nextOf (.ref i1) >>= _) _ _ _
 refine wpAny_bind (nx_item (s:={ s with heap:=g1 }) (h1.extBut s1.extBut D.i1z) (hl1.at fun o e=>s1.extBut _ _ D.l1z e) hx fun g2 i1' s2=>wpAny_pure ?_)
 have o2:IsPair g2 TO a b:=s2.extBut _ _ D.TOi1 (s1.extBut _ _ D.TOz hTO)
 refine wpAny_bind (wpAny_seqItems o2 rfl (wpAny_bind (wpAny_updateSeq_pair o2 fun g3 o3 s3=>?_)))
 replace o3:IsPair g3 TO x b:=o3
 refine wpAny_bind (wpAny_letGo (wpAny_pure ?_))
 refine wpAny_bind (wpAny_bind (wpAny_onRaise ?_))
 show wpAny _ _ (Builtin.SmallTypes.nextOf (.ref i2) >>= _) _ _ _
 refine wpAny_bind (nx_item (s:={ s with heap:=g3 }) (((h2.extBut s1.extBut D.i2z).extBut s2.extBut D.i12.symm).extBut s3.extBut D.TOi2.symm) (hl2.at fun o e=>s3.extBut _ _ D.l2TO (s2.extBut _ _ D.l2i1 (s1.extBut _ _ D.l2z e))) hy fun g4 i2' s4=>wpAny_pure ?_)
 have o4:IsPair g4 TO x b:=s4.extBut _ _ D.TOi2 o3
 refine wpAny_bind (wpAny_seqItems o4 rfl (wpAny_bind (wpAny_updateSeq_pair o4 fun g5 o5 s5=>?_)))
 replace o5:IsPair g5 TO x y:=o5
 refine wpAny_bind (wpAny_letGo (wpAny_pure (wpAny_pure ?_)))
 refine wpAny_bind (wpAny_seqItems o5 rfl (wpAny_bind (wpAny_newTuple ?_)))
 have hsz:g5.objs.size = s.heap.objs.size:=by rw [s5.1,s4.1,s3.1,s2.1,s1.1]
 have z5:IsZ g5 z TI TO .ellipsis (.bool false):=s5.extBut _ _ D.TOz.symm (s4.extBut _ _ D.i2z.symm (s3.extBut _ _ D.TOz.symm (s2.extBut _ _ D.i1z.symm z1)))
 have k5:∀ c o,c≠z→c≠TO→c≠i1→c≠i2→s.heap.get? c = some o→g5.get? c = some o:=fun c o c1 c2 c3 c4 e=>s5.extBut _ _ c2 (s4.extBut _ _ c4 (s3.extBut _ _ c2 (s2.extBut _ _ c3 (s1.extBut _ _ c1 e))))
 have j1:SIt tu g5 i1 l1 (k + 1):=((i1'.extBut s3.extBut D.TOi1.symm).extBut s4.extBut D.i12).extBut s5.extBut D.TOi1.symm
 have j2:SIt tu g5 i2 l2 (k + 1):=i2'.extBut s5.extBut D.TOi2.symm
 have hzlt:z < g5.objs.size:=Heap.lt_size z5
 show wpAny _ _ (Builtin.SmallTypes.ownedTupleHandOut (.ref z) (.ref g5.objs.size) >>= _) _ _ _
 refine wpAny_bind ?_
 unfold Builtin.SmallTypes.ownedTupleHandOut
 have z6:IsZ (g5.push { cls:=.type "tuple",data:=.seq #[x,y] }) z TI TO .ellipsis (.bool false):=Heap.get?_push_of_some _ z5
 refine wpAny_bind (wpAny_setField_rec z6 (by simp) fun g7 z7 s7=>?_)
 replace z7:IsZ g7 z TI TO (rawInt g5.objs.size) (.bool false):=z7
 refine wpAny_setField_rec z7 (by simp) fun g8 z8 s8=>?_
 replace z8:IsZ g8 z TI TO (rawInt g5.objs.size) (.bool false):=z8
 have up:∀ c o,c≠z→g5.get? c = some o→g8.get? c = some o:=fun c o c1 e=>s8.extBut _ _ c1 (s7.extBut _ _ c1 (Heap.get?_push_of_some _ e))
 have t8:IsPair g8 g5.objs.size x y:=s8.extBut _ _ (Nat.ne_of_gt hzlt) (s7.extBut _ _ (Nat.ne_of_gt hzlt) (Heap.get?_push_size _ rfl))
 rw [hsz] at z8 t8
 refine wpAny_pure ⟨_,rfl,wpAny_pure ?_⟩
 show Q (some (.ref g5.objs.size)) _
 rw [hsz]
 exact hQ g8 z8 (up _ _ D.TOz o5) (j1.at fun o e=>up _ o D.i1z e) (j2.at fun o e=>up _ o D.i2z e) t8 fun c o c1 c2 c3 c4 e=>up c o c1 (k5 c o c1 c2 c3 c4 e)
theorem busy_free {z TI TO T:Addr} {f1:Value} {o:Obj} {Q:Bool→Shared→Prop} (hz:IsZ s.heap z TI TO (rawInt T) f1) (hT:s.heap.get? T = some o) (hQ:∀ h',IsZ h' z TI TO (rawInt T) (.bool true)→Heap.SameBut z s.heap h'→Q false { s with heap:=h' }) :
  wpAny (model prog w) A (Builtin.SmallTypes.ownedTupleIsFree (.ref z)) Q E s:=by
 unfold Builtin.SmallTypes.ownedTupleIsFree
 refine wpAny_bind (wpAny_field hz rfl (x:=rawInt T) rfl ?_)
 show wpAny _ _ (loadIfAlive (T:Int).toNat >>= _) _ _ _
 rw [Int.toNat_natCast]
 refine wpAny_bind (wpAny_alive hT ?_)
 rw [if_neg (by simp)]
 refine wpAny_bind (wpAny_field hz rfl (x:=f1) rfl ?_)
 by_cases e:f1 = .bool true
 ·subst e
  rw [if_neg (by simp)]
  exact wpAny_pure (hQ s.heap hz ⟨rfl,fun _ _=>rfl⟩)
 ·rw [if_pos (by simpa using e)]
  refine wpAny_bind (wpAny_setField_rec hz (by simp) fun h' z' s'=>?_)
  exact wpAny_pure (hQ h' z' s')
theorem zs_busy {tu:Bool} {z TI TO i1 i2 l1 l2 T:Addr} {k:Nat} {xs ys:Array Value} {x y f1:Value} {o:Obj} {Q:Option Value→Shared→Prop} (D:ZipApart z TI TO i1 i2 l1 l2) (hz:IsZ s.heap z TI TO (rawInt T) f1) (hT:s.heap.get? T = some o) (hTI:IsPair s.heap TI (.ref i1) (.ref i2))
  (h1:SIt tu s.heap i1 l1 k) (h2:SIt tu s.heap i2 l2 k) (hl1:SSq tu s.heap l1 xs) (hl2:SSq tu s.heap l2 ys) (hx:xs[k]? = some x) (hy:ys[k]? = some y)
  (hQ:∀ h',IsZ h' z TI TO (rawInt T) (.bool true)→SIt tu h' i1 l1 (k + 1)→SIt tu h' i2 l2 (k + 1)→IsPair h' s.heap.objs.size x y →
   (∀ c o,c≠z→c≠i1→c≠i2→s.heap.get? c = some o→h'.get? c = some o)→Q (some (.ref s.heap.objs.size)) { s with heap:=h' }):wpAny (model prog w) A (pyNext (.ref z)) Q E s:=by
 have hTy:s.TypeIs (.ref z) "zip":=⟨_,hz,rfl⟩
 unfold pyNext
 refine wpAny_bind (wpAny_attempt (wpAny_callSpecial?_slot (name:=Str.ofString "__next__") hTy F.slot_zip_next (wpAny_call_entry F.slot_zip_next hTy F.entry_zip_next ?_ (F.args_zip_next_1 _))))
 show wpAny _ _ (field (.ref z) 2 >>= _) _ _ _
 refine wpAny_bind (wpAny_field hz rfl (x:=.bool false) rfl ?_)
 show wpAny _ _ (field (.ref z) 3 >>= _) _ _ _
 refine wpAny_bind (wpAny_field hz rfl (x:=.ref TI) rfl (wpAny_bind (wpAny_seqItems hTI rfl ?_)))
 show wpAny _ _ (Builtin.SmallTypes.ownedTupleIsFree (.ref z) >>= _) _ _ _
 refine wpAny_bind (busy_free hz hT fun g1 z1 s1=>?_)
 simp only [Bool.false_eq_true,if_false]
 refine wpAny_bind ?_
 rw [← Array.forIn_toList]
 simp only [List.forIn_cons,List.forIn_nil]
 refine wpAny_bind (wpAny_bind (wpAny_holding ?_))
 show wpAny _ _ (Builtin.SmallTypes.nextOf (.ref i1) >>= _) _ _ _
 refine wpAny_bind (nx_item (s:={ s with heap:=g1 }) (h1.extBut s1.extBut D.i1z) (hl1.at fun o e=>s1.extBut _ _ D.l1z e) hx fun g2 i1' s2=>wpAny_pure ?_)
 refine wpAny_pure ?_
 refine wpAny_bind (wpAny_bind (wpAny_holding ?_))
 show wpAny _ _ (Builtin.SmallTypes.nextOf (.ref i2) >>= _) _ _ _
 refine wpAny_bind (nx_item (s:={ s with heap:=g2 }) ((h2.extBut s1.extBut D.i2z).extBut s2.extBut D.i12.symm) (hl2.at fun o e=>s2.extBut _ _ D.l2i1 (s1.extBut _ _ D.l2z e)) hy fun g3 i2' s3=>wpAny_pure ?_)
 refine wpAny_pure (wpAny_pure ?_)
 have hsz:g3.objs.size = s.heap.objs.size:=by rw [s3.1,s2.1,s1.1]
 refine wpAny_bind (wpAny_newTuple (hsz:=by show 2≤sizeLine; decide) (wpAny_pure ⟨_,rfl,wpAny_pure ?_⟩))
 have k3:∀ c o,c≠z→c≠i1→c≠i2→s.heap.get? c = some o→g3.get? c = some o:=fun c o c1 c3 c4 e=>s3.extBut _ _ c4 (s2.extBut _ _ c3 (s1.extBut _ _ c1 e))
 have z3:IsZ g3 z TI TO (rawInt T) (.bool true):=s3.extBut _ _ D.i2z.symm (s2.extBut _ _ D.i1z.symm z1)
 have t4:IsPair (g3.push { cls:=.type "tuple",data:=.seq #[x,y] }) g3.objs.size x y:=Heap.get?_push_size _ rfl
 show Q (some (.ref g3.objs.size)) _
 rw [hsz] at t4 ⊢
 exact hQ _ (Heap.get?_push_of_some _ z3) ((i1'.extBut s3.extBut D.i12).at fun o e=>Heap.get?_push_of_some _ e) (i2'.at fun o e=>Heap.get?_push_of_some _ e) t4 fun c o c1 c3 c4 e=>Heap.get?_push_of_some _ (k3 c o c1 c3 c4 e)
theorem zs_end {tu:Bool} {z TI TO i1 i2 l1 l2 T:Addr} {k:Nat} {xs:Array Value} {f1:Value} {o:Obj} {Q:Option Value→Shared→Prop} (hh:A.handled = none) (D:ZipApart z TI TO i1 i2 l1 l2) (hz:IsZ s.heap z TI TO (rawInt T) f1) (hT:s.heap.get? T = some o) (hTI:IsPair s.heap TI (.ref i1) (.ref i2))
  (h1:SIt tu s.heap i1 l1 k) (hl1:SSq tu s.heap l1 xs) (hx:xs[k]? = none)
  (hQ:∀ h',(∀ c o,c≠z→c≠i1→s.heap.get? c = some o→h'.get? c = some o)→Q none { s with heap:=h' }):wpAny (model prog w) A (pyNext (.ref z)) Q E s:=by
 have hTy:s.TypeIs (.ref z) "zip":=⟨_,hz,rfl⟩
 unfold pyNext
 refine wpAny_bind (wpAny_attempt (wpAny_callSpecial?_slot (name:=Str.ofString "__next__") hTy F.slot_zip_next (wpAny_call_entry F.slot_zip_next hTy F.entry_zip_next ?_ (F.args_zip_next_1 _))))
 show wpAny _ _ (field (.ref z) 2 >>= _) _ _ _
 refine wpAny_bind (wpAny_field hz rfl (x:=.bool false) rfl ?_)
 show wpAny _ _ (field (.ref z) 3 >>= _) _ _ _
 refine wpAny_bind (wpAny_field hz rfl (x:=.ref TI) rfl (wpAny_bind (wpAny_seqItems hTI rfl ?_)))
 show wpAny _ _ (Builtin.SmallTypes.ownedTupleIsFree (.ref z) >>= _) _ _ _
 refine wpAny_bind (busy_free hz hT fun g1 z1 s1=>?_)
 simp only [Bool.false_eq_true,if_false]
 refine wpAny_bind ?_
 rw [← Array.forIn_toList]
 simp only [List.forIn_cons,List.forIn_nil]
 refine wpAny_bind (wpAny_bind (wpAny_holding ?_))
 show wpAny _ _ (Builtin.SmallTypes.nextOf (.ref i1) >>= _) _ _ _
 refine wpAny_bind (nx_end (s:={ s with heap:=g1 }) hh (h1.extBut s1.extBut D.i1z) (hl1.at fun o e=>s1.extBut _ _ D.l1z e) hx fun g2 e s2 he=>?_)
 refine o1_2 he fun oe hoe hce=>?_
 exact wpAny_bind (wpAny_isInstance (T:="StopIteration") (b:=true) ⟨oe,hoe,hce⟩ isSubtype_stop (wpAny_pure (hQ _ fun c o c1 c2 q=>s2 _ _ c2 (s1.extBut _ _ c1 q))))
def zipTH (h:Heap) (l1 l2:Addr):Heap :=
 let g1:=h.push { cls:=.type "tuple_iterator",data:=.fields #[.ref l1,.int 0 0] }
 let g2:=g1.push { cls:=.type "tuple_iterator",data:=.fields #[.ref l2,.int 0 0] }
 let g3:=g2.push { cls:=.type "tuple",data:=.seq #[.ref h.objs.size,.ref (h.objs.size + 1)] }
 let g4:=g3.push { cls:=.type "tuple",data:=.seq #[.none,.none] }
 g4.push { cls:=.type "zip",data:=.fields #[.none,.bool false,.bool false,.ref (h.objs.size + 2),.ref (h.objs.size + 3)] }
theorem meets_zipT (l1 l2:Addr) (xs ys:Array Value) :
  Meets (Builtin.«zip.__new__» ⟨[.type "zip",.ref l1,.ref l2],[]⟩) (fun _ R s=>s.heap.IsTuple l1 xs∧s.heap.IsTuple l2 ys∧R (.ok (.ret (.ref (s.heap.objs.size + 4)))) { s with heap:=zipTH s.heap l1 l2 }) :=
 .of_wp fun prog w A R s h=>by
  obtain ⟨hp,g,d,tk,os⟩:=s
  refine o0_3 h fun hl1 hl2 h=>?_
  have hsub:=sub_zip
  have hL1:Heap.IsTuple (Shared.heap ⟨hp,g,d,tk,os⟩) l1 xs:=hl1
  have hL2:Heap.IsTuple (Shared.heap ⟨hp.push { cls:=.type "tuple_iterator",data:=.fields #[.ref l1,.int 0 0] },g,d,tk,os⟩) l2 ys:=Heap.IsTuple.push hl2 _
  wp_walk using wpAny_pyIter_tuple hL1,wpAny_pyIter_tuple hL2
  refine ⟨_,rfl,?_⟩
  unfold zipTH at h
  simp only [Heap.size_push] at h ⊢
  exact h
theorem zip_new {tu:Bool} {l1 l2:Addr} {xs ys:Array Value} {Q:Value→Shared→Prop} (hl1:SSq tu s.heap l1 xs) (hl2:SSq tu s.heap l2 ys)
  (h:∀ h',IsZ h' (s.heap.objs.size + 4) (s.heap.objs.size + 2) (s.heap.objs.size + 3) .none (.bool false)→IsPair h' (s.heap.objs.size + 2) (.ref s.heap.objs.size) (.ref (s.heap.objs.size + 1)) →
   IsPair h' (s.heap.objs.size + 3) .none .none→SIt tu h' s.heap.objs.size l1 0→SIt tu h' (s.heap.objs.size + 1) l2 0 →
   (∀ c o,s.heap.get? c = some o→h'.get? c = some o)→Q (.ref (s.heap.objs.size + 4)) { s with heap:=h' }):wpAny (model prog w) A (call (.type "zip") [.ref l1,.ref l2]) Q E s:=by
 cases tu with
 | false=>exact call_zip_2 hl1 hl2 fun h' a b c d e f g=>h h' a b c d e g
 | true =>
  refine callType_new F.called_zip (by decide) (F.typeCall_zip_2 _ _) (F.newCall_zip_2 _ _) (fun obj=>F.args_object_init_3 obj _ _) F.entry_zip_new (meets_zipT l1 l2 xs ys) ⟨hl1,hl2,?_⟩
  unfold zipTH
  simp only []
  generalize e1:s.heap.push { cls:=.type "tuple_iterator",data:=.fields #[.ref l1,.int 0 0] } = g1
  generalize e2:g1.push { cls:=.type "tuple_iterator",data:=.fields #[.ref l2,.int 0 0] } = g2
  generalize e3:g2.push { cls:=.type "tuple",data:=.seq #[.ref s.heap.objs.size,.ref (s.heap.objs.size + 1)] } = g3
  generalize e4:g3.push { cls:=.type "tuple",data:=.seq #[.none,.none] } = g4
  generalize e5:g4.push { cls:=.type "zip",data:=.fields #[.none,.bool false,.bool false,.ref (s.heap.objs.size + 2),.ref (s.heap.objs.size + 3)] } = g5
  have z1:g1.objs.size = s.heap.objs.size + 1:=by rw [← e1,Heap.size_push]
  have z2:g2.objs.size = s.heap.objs.size + 2:=by rw [← e2,Heap.size_push,z1]
  have z3:g3.objs.size = s.heap.objs.size + 3:=by rw [← e3,Heap.size_push,z2]
  have z4:g4.objs.size = s.heap.objs.size + 4:=by rw [← e4,Heap.size_push,z3]
  have u1:∀ c o,s.heap.get? c = some o→g1.get? c = some o:=fun c o q=>by rw [← e1]; exact Heap.get?_push_of_some _ q
  have u2:∀ c o,g1.get? c = some o→g2.get? c = some o:=fun c o q=>by rw [← e2]; exact Heap.get?_push_of_some _ q
  have u3:∀ c o,g2.get? c = some o→g3.get? c = some o:=fun c o q=>by rw [← e3]; exact Heap.get?_push_of_some _ q
  have u4:∀ c o,g3.get? c = some o→g4.get? c = some o:=fun c o q=>by rw [← e4]; exact Heap.get?_push_of_some _ q
  have u5:∀ c o,g4.get? c = some o→g5.get? c = some o:=fun c o q=>by rw [← e5]; exact Heap.get?_push_of_some _ q
  have o1:g1.get? s.heap.objs.size = some { cls:=.type "tuple_iterator",data:=.fields #[.ref l1,.int 0 0] }:=by rw [← e1]; exact Heap.get?_push_size _ rfl
  have o2:g2.get? (s.heap.objs.size + 1) = some { cls:=.type "tuple_iterator",data:=.fields #[.ref l2,.int 0 0] }:=by rw [← e2,← z1]; exact Heap.get?_push_size _ rfl
  have o3:IsPair g3 (s.heap.objs.size + 2) (.ref s.heap.objs.size) (.ref (s.heap.objs.size + 1)):=by rw [← e3,← z2]; exact Heap.get?_push_size _ rfl
  have o4:IsPair g4 (s.heap.objs.size + 3) .none .none:=by rw [← e4,← z3]; exact Heap.get?_push_size _ rfl
  have o5:IsZ g5 (s.heap.objs.size + 4) (s.heap.objs.size + 2) (s.heap.objs.size + 3) .none (.bool false):=by rw [← e5,← z4]; exact Heap.get?_push_size _ rfl
  exact ⟨⟨_,o5,rfl⟩,h g5 o5 (u5 _ _ (u4 _ _ o3)) (u5 _ _ o4) ⟨_,u5 _ _ (u4 _ _ (u3 _ _ (u2 _ _ o1))),rfl,rfl⟩ ⟨_,u5 _ _ (u4 _ _ (u3 _ _ o2)),rfl,rfl⟩ fun c o q=>u5 _ _ (u4 _ _ (u3 _ _ (u2 _ _ (u1 _ _ q))))⟩
end
end W1
namespace W1
open PySem PySem.Spec PyProof.Rows L2
theorem bo_zip:bootBuiltins "zip" = some (.type "zip"):=by decide +kernel
section
variable {X:Cx} {pins:List (Addr × Obj)} {σ:L2.St}
def SqX (tu:Bool) (K:PySem.W.Frag) (H:Hp) (a:Addr) (xs:List V):Prop:=if tu = true then SqT K H a xs else SqL K H a xs
theorem SqX.same {tu:Bool} {K:PySem.W.Frag} {H H':Hp} {a:Addr} {xs:List V} (h:SqX tu K H a xs) (s:Same H H'):SqX tu K H' a xs:=by
 cases tu
 ·exact Same.seq s h
 ·exact Same.tup s h
theorem SqX.real {tu:Bool} {H:Hp} {s:Shared} {a:Addr} {xs:List V} (I:Inv X pins σ H s) (h:SqX tu X.K H a xs):∃ its:List Value,Vals xs its∧SSq tu s.heap a its.toArray∧a < s.heap.objs.size:=by
 cases tu
 ·refine o1_3 (I.list h) fun its r p _=>?_
  exact ⟨its,r,p.isList,p.lt⟩
 ·refine o1_3 (I.tuple h) fun its r p _=>?_
  exact ⟨its,r,p,p.lt⟩
theorem five_of {b z TI TO i1 i2:Addr} (h:b ∈ [z,TI,TO,i1,i2]):b = z∨b = TI∨b = TO∨b = i1∨b = i2:=by simpa using h
theorem zip_get {xs ys:List V} {i:Nat} {x y:V} (hx:xs[i]? = some x) (hy:ys[i]? = some y):(xs.zip ys)[i]? = some (x,y):=by
 rw [List.zip,List.getElem?_zipWith,hx,hy]
def ZipT (h:Heap) (S z TI TO i1 i2 l1 l2:Addr) (tu:Bool) (i:Nat):Prop :=
 (∃ f0 f1,IsZ h z TI TO f0 f1∧((i = 0∧f0 = .none∧f1 = .bool false)∨(0 < i∧∃ T o,f0 = rawInt (T:Nat)∧(T≠S∧T≠z∧T≠i1∧T≠i2)∧h.get? T = some o)))∧IsPair h TI (.ref i1) (.ref i2)∧(∃ a b,IsPair h TO a b)∧SIt tu h i1 l1 i∧SIt tu h i2 l2 i
def tListZip (K:PySem.W.Frag) (ta:TA):TE:=fun σ H Q=>ta σ H fun vs H1=>∃ (tu:Bool) (a b:Addr) (xs ys:List V),vs = [.ref a,.ref b]∧SqX tu K H1 a xs∧SqX tu K H1 b ys∧xs.length = ys.length∧xs≠[]∧xs.length≤sizeLine ∧
 ∀ (H':Hp) (l:Addr) (ts:List Addr),Same H1 H'→H1 l = none→H' l = some (.lst (ts.map V.ref))→Paired (fun t (p:V × V)=>H' t = some (.tup [p.1,p.2])) ts (xs.zip ys)→Q (.ref l) H'
theorem pe_listzip {e e2:Expr} {ta:TA} {p1 p2 pos pos2:Pos} (hc:X.calm = true) (hgl:Gl X "list") (hml:X.mg "list" = none) (hgz:Gl X "zip") (hmz:X.mg "zip" = none) (ha:PA X [e,e2] ta)
  (hs:starEach [e,e2] X.env = (false,eval e X.env) :: starEach [e2] X.env:=by rfl) (hpl:(backTo pos2 (starEach [e2] X.env)).any (·.1) = false:=by rfl) :
  PE X (.Call (.Name "list" p1) [.Call (.Name "zip" p2) [e,e2] [] pos2] [] pos) (tListZip X.K ta):=by
 intro pins s σ H Q I h
 refine Call_ (ld_blt I hgl hml bo_list (PyProof.Rows.callWith_type1 (args_cons ?_) rfl rfl))
 refine Call_ (ld_blt I hgz hmz bo_zip (PyProof.Rows.callWith_type1 (thn (ha pos2 pins s σ H _ I h) fun us s1 ⟨vs,H1,I1,r1,q1⟩=>?_) hs hpl))
 (refine o5_7 q1 fun tu a b xs ys y3_5 hx hy hlen hne hsz q=>?_; try clear q1; subst y3_5)
 (refine o2_3 r1.two fun u1 u2 y4_2 ru1 ru2=>?_; subst y4_2)
 cases (show u1 = Value.ref a from ru1)
 cases (show u2 = Value.ref b from ru2)
 refine o1_3 (hx.real I1) fun its rv sx la=>?_
 refine o1_3 (hy.real I1) fun its2 rv2 sy lb=>?_
 refine zip_new sx sy fun h' hz hTI hTO h1 h2 hk=>args_nil ?_
 generalize hB:s1.heap.objs.size = B at hz hTI hTO h1 h2 la lb
 have D:ZipApart (B + 4) (B + 2) (B + 3) B (B + 1) a b:=PySem.W.ktu_apart B a b la lb
 have I2:Inv X pins σ H1 { s1 with heap:=h',toks:=s1.toks }:=I1.kept hk
 have hfp:∀ c ∈ [B + 4,B + 2,B + 3,B,B + 1],FpOk X pins H1 c:=fun c hcm=>by
  have hle:s1.heap.objs.size≤c:=by
   rw [hB]
   rcases five_of hcm with r | r | r | r | r <;> rw [r] <;> first | exact Nat.le_refl _ | exact Nat.le_add_right _ _
  exact I1.fpOk hle (I1.hok.fresh hle)
 refine list_of_it (X:=X) (pins:=pins) (σ:=σ) (r:=B + 4) (T:="zip") (n:=xs.length) (s:={ s1 with heap:=h' }) (H:=H1)
  (Pv:=fun i zs H'=>∃ ts:List Addr,zs = ts.map V.ref∧Same H1 H'∧Paired (fun t (p:V × V)=>H' t = some (.tup [p.1,p.2])) ts ((xs.zip ys).take i)) hsz I2 hz rfl (by decide) (by decide)
  (fun S hS=>⟨[],rfl,same_new hS,.nil⟩) ?_ ?_ ?_
 ·intro S s2 E2 Q2 hS I3 all3 hQ2
  have hz3:IsZ s2.heap (B + 4) (B + 2) (B + 3) .none (.bool false):=all3 _ _ hz
  refine o2_3 (I3.lst upd_same) fun lits lc _ hlS _=>?_
  have nS:∀ {c:Addr} {ob:Obj},s2.heap.get? c = some ob→ob.cls≠.type "list"→c≠S:=fun e n z=>by
   rw [z,hlS] at e
   cases e
   exact n rfl
  have nz:B + 4≠S:=nS hz3 (by show Value.type "zip"≠Value.type "list"; decide)
  have nTI:B + 2≠S:=nS (all3 _ _ hTI) (by show Value.type "tuple"≠Value.type "list"; decide)
  have nTO:B + 3≠S:=nS (all3 _ _ hTO) (by show Value.type "tuple"≠Value.type "list"; decide)
  have n1:B≠S:=by
   cases tu
   ·(refine o1_3 h1 fun o ho c _=>?_; try clear h1); exact nS (all3 _ _ ho) (by rw [c]; decide)
   ·(refine o1_3 h1 fun o ho c _=>?_; try clear h1); exact nS (all3 _ _ ho) (by rw [c]; decide)
  have n2:B + 1≠S:=by
   cases tu
   ·(refine o1_3 h2 fun o ho c _=>?_; try clear h2); exact nS (all3 _ _ ho) (by rw [c]; decide)
   ·(refine o1_3 h2 fun o ho c _=>?_; try clear h2); exact nS (all3 _ _ ho) (by rw [c]; decide)
  have t0:ZipT s2.heap S (B + 4) (B + 2) (B + 3) B (B + 1) a b tu 0:=⟨⟨_,_,hz3,.inl ⟨rfl,rfl,rfl⟩⟩,all3 _ _ hTI,⟨_,_,all3 _ _ hTO⟩,h1.at fun o e=>all3 _ o e,h2.at fun o e=>all3 _ o e⟩
  have hxs:∀ (H':Hp) (s':Shared),Inv X pins σ H' s'→Same H1 H'→∃ its:List Value,Vals xs its∧SSq tu s'.heap a its.toArray:=fun H' s' I' e'=>let ⟨i,r,p,_⟩:=(hx.same e').real I'; ⟨i,r,p⟩
  have hys:∀ (H':Hp) (s':Shared),Inv X pins σ H' s'→Same H1 H'→∃ its:List Value,Vals ys its∧SSq tu s'.heap b its.toArray:=fun H' s' I' e'=>let ⟨i,r,p,_⟩:=(hy.same e').real I'; ⟨i,r,p⟩
  refine wpAny_pyIter_zip hz3 (hQ2 (B + 4) [B + 4,B + 2,B + 3,B,B + 1] (fun i h=>ZipT h S (B + 4) (B + 2) (B + 3) B (B + 1) a b tu i) s2 I3 all3 (fun c hcm=>⟨?_,(hfp c hcm).2⟩) t0 ?_ ?_ ?_)
  ·have ncS:c≠S:=by
    rcases five_of hcm with r | r | r | r | r <;> rw [r]
    ·exact nz
    ·exact nTI
    ·exact nTO
    ·exact n1
    ·exact n2
   rw [upd_ne ncS]
   exact (hfp c hcm).1
  ·(intro i g g' oi12; refine o0_5 oi12 fun y13_0 hTI y13_2 j1 j2=>?_; try clear oi12; refine o2_2 y13_0 fun f0 f1 hz hf=>?_; try clear y13_0; refine o2_1 y13_2 fun x y hTO=>?_; try clear y13_2; intro k)
   refine ⟨⟨f0,f1,k _ _ nz hz,?_⟩,k _ _ nTI hTI,⟨x,y,k _ _ nTO hTO⟩,j1.at fun o e=>k _ o n1 e,j2.at fun o e=>k _ o n2 e⟩
   rcases hf with hf | ⟨p,T,o,e,n,ho⟩
   ·exact .inl hf
   ·exact .inr ⟨p,T,o,e,n,k _ _ n.1 ho⟩
  ·(intro i s' H' zs E' hi I' hf oi16; refine o0_5 oi16 fun y17_0 hTI y17_2 j1 j2=>?_; try clear oi16; refine o2_2 y17_0 fun f0 f1 hz hcase=>?_; try clear y17_0; refine o2_1 y17_2 fun x0 y0 hTO=>?_; try clear y17_2; intro hS' oi20; refine o1_3 oi20 fun ts y21_1 e' pr=>?_; try clear oi20; subst y21_1)
   refine o1_2 (hxs H' s' I' e') fun itx rx px=>?_
   refine o1_2 (hys H' s' I' e') fun ity ry py=>?_
   refine o1_1 (show ∃ x,xs[i]? = some x from ⟨_,List.getElem?_eq_getElem hi⟩) fun x hxi=>?_
   (refine o1_1 (show ∃ y,ys[i]? = some y from ⟨_,List.getElem?_eq_getElem (by rw [← hlen]; exact hi)⟩) fun y hyi=>?_)
   refine o1_2 (rx.get hxi) fun u hu ru=>?_
   refine o1_2 (ry.get hyi) fun v hv rv'=>?_
   have hTn:H' s'.heap.objs.size = none:=I'.hok.fresh (Nat.le_refl _)
   have hSlt:S < s'.heap.objs.size:=by (refine o2_3 (I'.lst hS') fun _ _ _ q _=>?_); exact Heap.lt_size q
   have nTS:s'.heap.objs.size≠S:=Nat.ne_of_gt hSlt
   have fin:∀ g:Heap,IsPair g s'.heap.objs.size u v→(∀ c o,c ∉ [B + 4,B + 2,B + 3,B,B + 1]→s'.heap.get? c = some o→g.get? c = some o)→ZipT g S (B + 4) (B + 2) (B + 3) B (B + 1) a b tu (i + 1) →
     ∃ u' x' H'',(some (Value.ref s'.heap.objs.size):Option Value) = some u'∧Inv X pins σ H'' { s' with heap:=g }∧RelV x' u'∧H'' S = some (.lst (ts.map V.ref))∧ZipT g S (B + 4) (B + 2) (B + 3) B (B + 1) a b tu (i + 1)∧(∀ c ∈ [B + 4,B + 2,B + 3,B,B + 1],H'' c = none) ∧
      ∃ ts':List Addr,ts.map V.ref ++ [x'] = ts'.map V.ref∧Same H1 (upd H'' S (.lst (ts.map V.ref ++ [x'])))∧Paired (fun t (p:V × V)=>upd H'' S (.lst (ts.map V.ref ++ [x'])) t = some (.tup [p.1,p.2])) ts' ((xs.zip ys).take (i + 1)):=fun g hp kg tg=>by
    have new:ObjOk X.prog X.w (upd H' s'.heap.objs.size (.tup [x,y])) g s'.heap.objs.size (.tup [x,y]):=⟨by show 2≤sizeLine; decide,[u,v],.cons ru (.cons rv' .nil),⟨_,hp,rfl,_,rfl⟩⟩
    refine ⟨_,.ref s'.heap.objs.size,_,rfl,I'.turnedNew (t':=s'.toks) kg hf (Nat.le_refl _) new,rfl,by rw [upd_ne (Ne.symm nTS)]; exact hS',tg,fun c hcm=>?_,ts ++ [s'.heap.objs.size],by rw [List.map_append]; rfl,Same.put (Same.put e' (e'.free hTn)) hS,?_⟩
    ·have q0:=(hf c hcm).1
     by_cases z:c = s'.heap.objs.size
     ·exfalso
      obtain ⟨oz,hoz⟩:∃ o,s'.heap.get? c = some o:=by
       rcases five_of hcm with r | r | r | r | r <;> rw [r]
       ·exact ⟨_,hz⟩
       ·exact ⟨_,hTI⟩
       ·exact ⟨_,hTO⟩
       ·exact let ⟨o,ho,_⟩:=j1.obj; ⟨o,ho⟩
       ·exact let ⟨o,ho,_⟩:=j2.obj; ⟨o,ho⟩
      exact absurd (Heap.lt_size hoz) (by rw [z]; exact Nat.lt_irrefl _)
     ·rw [upd_ne z]
      exact q0
    ·rw [take_snoc (zip_get hxi hyi)]
     refine Paired.snoc (Paired.mapP pr fun t p e=>?_) ?_
     ·have m1:t≠S:=ne_of e hS' (by intro z; cases z)
      have m2:t≠s'.heap.objs.size:=ne_of_none e hTn
      show upd _ _ _ t = _
      rw [upd_ne m1,upd_ne m2]
      exact e
     ·show upd _ _ _ _ = _
      rw [upd_ne nTS,upd_same]
   rcases hcase with ⟨rfl,rfl,rfl⟩ | ⟨hpos,T,oT,rfl,nT,hT⟩
   ·have l1:=j1.obj
    have l2:=j2.obj
    refine zs_free D hz hTI hTO j1 j2 px py (x:=u) (y:=v) (by simpa using hu) (by simpa using hv) fun g gz gTO g1 g2 gp gk=>fin g gp (fun c o hcm e=>gk c o (fun r=>hcm (by simp [r])) (fun r=>hcm (by simp [r])) (fun r=>hcm (by simp [r])) (fun r=>hcm (by simp [r])) e)
     ⟨⟨_,_,gz,.inr ⟨Nat.succ_pos _,_,_,rfl,⟨nTS,Nat.ne_of_gt (Heap.lt_size hz),Nat.ne_of_gt (Heap.lt_size l1.choose_spec.1),Nat.ne_of_gt (Heap.lt_size l2.choose_spec.1)⟩,gp⟩⟩,gk _ _ D.TIz D.TITO D.TIi1 D.TIi2 hTI,⟨_,_,gTO⟩,g1,g2⟩
   ·refine zs_busy D hz hT hTI j1 j2 px py (x:=u) (y:=v) (by simpa using hu) (by simpa using hv) fun g gz g1 g2 gp gk=>fin g gp (fun c o hcm e=>gk c o (fun r=>hcm (by simp [r])) (fun r=>hcm (by simp [r])) (fun r=>hcm (by simp [r])) e)
     ⟨⟨_,_,gz,.inr ⟨Nat.succ_pos _,T,oT,rfl,nT,gk _ _ nT.2.1 nT.2.2.1 nT.2.2.2 hT⟩⟩,gk _ _ D.TIz D.TIi1 D.TIi2 hTI,⟨_,_,gk _ _ D.TOz D.TOi1 D.TOi2 hTO⟩,g1,g2⟩
  ·(intro s' H' zs E' I' hf oi29; refine o0_5 oi29 fun y30_0 hTI y30_2 j1 j2=>?_; try clear oi29; refine o2_2 y30_0 fun f0 f1 hz hcase=>?_; try clear y30_0; refine o2_1 y30_2 fun x0 y0 hTO=>?_; try clear y30_2; intro hS' oi33; refine o1_3 oi33 fun ts y34_1 e' pr=>?_; try clear oi33; subst y34_1)
   refine o1_2 (hxs H' s' I' e') fun itx rx px=>?_
   have lx:=rx.length
   rcases hcase with ⟨h0,_⟩ | ⟨hpos,T,oT,rfl,nT,hT⟩
   ·exact absurd (List.eq_nil_of_length_eq_zero h0) hne
   ·refine zs_end (I.ok.hd hc) D hz hT hTI j1 px (by simp; omega) fun g gk=>⟨rfl,I'.turnedL (t':=s'.toks) (ch:=[B + 4,B + 2,B + 3,B,B + 1]) (fun c o hcm e=>gk c o (fun r=>hcm (by simp [r])) (fun r=>hcm (by simp [r])) e) hf⟩
 ·intro S s2 E2 Q2 ho hQ2
  unfold Builtin.List.listLengthHint
  refine wpAny_bind (wpAny_specialOf (T:="zip") ⟨_,ho,rfl⟩ zip_no_len ?_)
  show wpAny _ _ (specialOf (Value.ref (B + 4)) (Str.ofString "__length_hint__") >>= _) _ _ _
  refine wpAny_bind (wpAny_specialOf (T:="zip") ⟨_,ho,rfl⟩ zip_no_hint ?_)
  exact wpAny_pure (hQ2 true)
 ·(intro S s' H' zs hS I' hS' oi36; refine o1_3 oi36 fun ts y37_1 e' pr=>?_; try clear oi36; subst y37_1)
  rw [List.take_of_length_le (by rw [List.length_zip]; exact Nat.min_le_left _ _)] at pr
  exact ⟨.ref S,H',I',rfl,q H' S ts e' hS hS' pr⟩
end
section
variable {X:Cx}
theorem call_lenT:CallR X (.builtin "len") (fun xs H Q=>∃ a kvs,xs = [V.ref a]∧H a = some (.dT kvs)∧Q (.int kvs.length) H):=by
 intro pins s σ H xs us Q I r h
 (refine o2_3 h fun a kvs y38_2 ha q=>?_; try clear h; subst y38_2)
 (refine o1_2 (vals1 r) fun u y39_1 ru=>?_; subst y39_1)
 cases ru
 obtain ⟨z,hd,ys,rel,o,es,ep,ho,hc,hdat,he,_,_⟩:=dt_of I.hok ha
 have hl:es.size = kvs.length:=by rw [size_of_entries he,← Paired.length rel]
 have hT:s.TypeIs (.ref a) "dict":=⟨o,ho,hc.1⟩
 rw [sizeLine_eq] at z
 refine Calls.call_function_entry kind_len plain_len entry_len (args_len1 _) ?_
 unfold Builtin.«len»
 refine wpAny_bind (m:=oneArg "len" _) (wpAny_pure ?_)
 refine wpAny_bind (m:=callSpecial? (.ref a) (Str.ofString "__len__")) (wpAny_callSpecial?_slot (name:=Str.ofString "__len__") hT F.slot_dict_len (wpAny_call_entry F.slot_dict_len hT F.entry_dict_len ?_ (F.args_dict_len_1 _)))
 show wpAny _ _ (dictSize a >>= _) _ _ s
 unfold dictSize
 refine wpAny_bind (wpAny_bind (wpAny_dictEntries ho hdat (wpAny_pure ?_)))
 show wpAny _ _ (Builtin.Dict.pendingCount a >>= _) _ _ s
 refine wpAny_bind (wpAny_pendingCount_other hd (wpAny_ret_mkInt ?_))
 have e0:(es.size:Int) + ((0:Nat):Int) = (kvs.length:Int):=by rw [hl]; simp
 rw [e0]
 refine wpAny_bind (wpAny_holding (wpAny_pure ?_))
 refine wpAny_bind (wpAny_letGo ?_)
 show wpAny _ _ (if ((kvs.length:Nat):Int) < 0 then _ else _) _ _ _
 rw [if_neg (by omega)]
 show wpAny _ _ (if ((kvs.length:Nat):Int) ≥ 2 ^ 63 then _ else _) _ _ _
 rw [if_neg (by omega)]
 exact wpAny_bind (wpAny_mkInt (wpAny_pure ⟨_,rfl,.int kvs.length,H,I.tok _,⟨_,rfl⟩,q⟩))
theorem dict_len_split:splitId "dict.__len__" = some ("dict","__len__"):=by decide +kernel
theorem call_list_dT (hc:X.calm = true):CallR X (.type "list") (fun xs H Q=>∃ a kvs,xs = [V.ref a]∧H a = some (.dT kvs)∧∀ (l:Addr) (ts:List Addr),H l = none→Paired (fun t (p:List Key × V)=>H t = some (.tup (p.1.map kV))) ts kvs→Q (.ref l) (upd H l (.lst (ts.map V.ref)))):=by
 intro pins s σ H xs us Q I r h
 (refine o2_3 h fun d kvs y41_2 ha q=>?_; try clear h; subst y41_2)
 (refine o1_2 (vals1 r) fun u y42_1 ru=>?_; subst y42_1)
 cases ru
 obtain ⟨z,hd,ys,rel,o,es,ep,ho,hx,hdat,he,_,_⟩:=dt_of I.hok ha
 have hl:es.size = kvs.length:=by rw [size_of_entries he,← Paired.length rel]
 refine list_of_it (X:=X) (pins:=pins) (σ:=σ) (r:=d) (T:="dict") (n:=kvs.length) (s:=s) (H:=H)
  (Pv:=fun i zs H'=>∃ ts:List Addr,zs = ts.map V.ref∧(∃ S,H S = none∧H' = upd H S (.lst zs))∧Paired (fun t (p:List Key × V)=>H t = some (.tup (p.1.map kV))) ts (kvs.take i)) z I ho hx.1 (by decide) (by decide)
  (fun S hS=>⟨[],rfl,⟨S,hS,rfl⟩,.nil⟩) ?_ ?_ ?_
 ·intro S s2 E2 Q2 hS I3 all3 hQ2
  have hdS:d≠S:=ne_of_none ha hS
  have hd2:s2.heap.get? d = some o:=all3 _ _ ho
  refine o2_3 (I3.lst upd_same) fun lits lc _ hlS _=>?_
  refine iter_keys hd hd2 hx hdat ?_
  have nit:s2.heap.objs.size≠S:=Nat.ne_of_gt (Heap.lt_size hlS)
  have fresh:H s2.heap.objs.size = none:=by
   have:=I3.hok.fresh (Nat.le_refl s2.heap.objs.size)
   rw [upd_ne nit] at this
   exact this
  refine hQ2 s2.heap.objs.size [s2.heap.objs.size] (fun i h=>h.IsKeyIter s2.heap.objs.size d i kvs.length ep∧h.get? d = some o) _ (I3.kept (t':=s2.toks) fun b ob e=>Heap.get?_push_of_some _ e) (fun b ob e=>Heap.get?_push_of_some _ (all3 _ _ e)) (fun b hb=>?_)
   ⟨⟨_,Heap.get?_push_size _ rfl,rfl,by rw [hl]; rfl⟩,Heap.get?_push_of_some _ hd2⟩ (fun i h h' ⟨t1,t2⟩ k=>⟨t1.at fun ob e=>k _ ob nit e,k _ _ hdS t2⟩) ?_ ?_
  ·obtain rfl:b = s2.heap.objs.size:=by simpa using hb
   exact I3.fpOk (Nat.le_refl _) (I3.hok.fresh (Nat.le_refl _))
  ·(intro i s' H' zs E' hi I' hf oi45; refine o0_2 oi45 fun t1 t2=>?_; try clear oi45; intro hS' oi47; refine o1_3 oi47 fun ts y48_1 y48_2 pr=>?_; try clear oi47; subst y48_1; refine o1_2 y48_2 fun S' hn' y49_2=>?_; try clear y48_2; subst y49_2)
   have eS:S' = S:=by
    by_cases e:S = S'
    ·exact e.symm
    ·rw [upd_ne e,hS] at hS'; cases hS'
   subst eS
   obtain ⟨⟨k,v⟩,hkv⟩:∃ p,kvs[i]? = some p:=⟨kvs[i],List.getElem?_eq_getElem hi⟩
   obtain ⟨⟨k',b,w⟩,hy,e1,e2,e3⟩:=paired_get rel hkv
   have hen:es[i]? = some (entryOfKey (tupleKind (mixKind X.prog X.w)) (k',b,w)):=by rw [entry_at he i,hy]; rfl
   refine o0_6 (hf s2.heap.objs.size (by simp)) fun f0 f1 f2 f3 f4 f5=>?_
   refine next_key_item t1 t2 hdat hl hen fun h' st' sb=>?_
   refine ⟨_,.ref b,_,rfl,I'.turned (t':=s'.toks) (fun b ob hb e=>(sb.2 b hb).trans e) f0 f1 f3 f4 f5,rfl,upd_same,⟨st',(sb.2 d (fun z=>?_)).trans t2⟩,fun b hb=>(hf b hb).1,ts ++ [b],by rw [List.map_append]; rfl,⟨S',hS,?_⟩,?_⟩
   ·rw [← z] at fresh
    rw [ha] at fresh
    cases fresh
   ·funext c
    by_cases z:c = S'
    ·rw [z,upd_same,upd_same]
    ·rw [upd_ne z,upd_ne z,upd_ne z]
   ·rw [take_snoc hkv]
    exact Paired.snoc pr e2
  ·(intro s' H' zs E' I' hf oi55; refine o0_2 oi55 fun t1 t2=>?_; try clear oi55; intro hS' _)
   refine o0_6 (hf s2.heap.objs.size (by simp)) fun f0 f1 f2 f3 f4 f5=>?_
   exact next_key_end (I.ok.hd hc) t1 t2 hdat hl (Nat.le_refl _) fun h' eb=>⟨rfl,I'.turned (t':=s'.toks) (fun b ob hb e=>eb b ob hb e) f0 f1 f3 f4 f5⟩
 ·intro S s2 E2 Q2 ho2 hQ2
  have hT:s2.TypeIs (.ref d) "dict":=⟨o,ho2,hx.1⟩
  unfold Builtin.List.listLengthHint
  refine wpAny_bind (wpAny_specialOf hT F.slot_dict_len.lookup ?_)
  generalize hid:("dict.__len__":String) = id0
  wp_delta
  rw [show splitId id0 = some ("dict","__len__") from by subst hid; exact dict_len_split]
  subst hid
  refine wpAny_bind (wpAny_isInstance (T:="dict") (b:=true) hT (by rw [isSubtype_type]; kernel_rfl) ?_)
  refine wpAny_ite_split (fun hab=>absurd hab (by decide)) (fun _=>?_)
  refine wpAny_ite_split (fun _=>?_) (fun hab=>absurd (by decide +kernel) hab)
  refine wpAny_bind (wpAny_typeOf hT ?_)
  exact wpAny_pure (hQ2 false)
 ·(intro S s' H' zs hS I' hS' oi58; refine o1_3 oi58 fun ts y9_1 y9_2 pr=>?_; try clear oi58; subst y9_1; refine o1_2 y9_2 fun S' hn' y10_2=>?_; try clear y9_2; subst y10_2)
  have eS:S' = S:=by
   by_cases e:S = S'
   ·exact e.symm
   ·rw [upd_ne e,hS] at hS'; cases hS'
  subst eS
  rw [List.take_length] at pr
  exact ⟨.ref S',_,I',rfl,q S' ts hS pr⟩
end
end W1
namespace W1
open PySem PySem.Spec PyProof.Rows L2
theorem bo_isinstance:bootBuiltins "isinstance" = some (.builtin "isinstance"):=by decide +kernel
theorem bo_sum:bootBuiltins "sum" = some (.builtin "sum"):=by decide +kernel
section
variable {X:Cx}
def isStrV:V→Bool
 | .str _=>true
 | _=>false
def rIsiStr:List V→Hp→VK→Prop:=fun vs H Q=>∃ x,vs = [x,.ty "str"]∧((∃ z,x = .int z)∨∃ z,x = .str z)∧Q (.bl (isStrV x)) H
theorem kit_int_str (K:PySem.W.Frag):PySem.W.kitOne K (.type "int") (.type "str") = some false:=by
 unfold PySem.W.kitOne
 rw [if_neg (by decide)]
 show (if PySem.W.kitMeta "str" = true then PySem.W.subIn K (.type "int") (.type "str") else none) = some false
 rw [if_pos (by kernel_rfl)]
 show (fastBuiltinMro "int").map (·.contains (Value.type "str")) = some false
 kernel_rfl
theorem call_isiStr:CallR X (.builtin "isinstance") rIsiStr:=by
 intro pins s σ H xs us Q I r h
 (refine o1_3 h fun x y1_1 hx q=>?_; try clear h; subst y1_1)
 (refine o2_3 r.two fun u1 u2 y2_2 ru1 ru2=>?_; subst y2_2)
 cases (show u2 = Value.type "str" from ru2)
 rcases hx with ⟨z,rfl⟩ | ⟨z,rfl⟩
 ·exact isinst_ok I ru1 (.int z) (kit_int_str X.K) fun tk=>⟨.bl false,H,I.tok _,rfl,q⟩
 ·exact isinst_ok I ru1 (.str z) (b:=true) (if_pos rfl) fun tk=>⟨.bl true,H,I.tok _,rfl,q⟩
theorem op_in_seqK {K:PySem.W.Frag} (hK:X.K = K):OpR X (compareOp .In) (rIn K false):=by
 subst hK
 exact op_in_seq
theorem ix_listK {K:PySem.W.Frag} (hK:X.K = K):IxR X (rIxL K):=by
 subst hK
 exact ix_list
theorem ix_tupK {K:PySem.W.Frag} (hK:X.K = K):IxR X (rIxT K):=by
 subst hK
 exact ix_tup
def rNeInts (K:PySem.W.Frag):R2:=fun x y H Q=>∃ (a b:Addr) (xs ys:List Int),x = .ref a∧y = .ref b∧SqL K H a (xs.map V.int)∧SqL K H b (ys.map V.int)∧Q (.bl (!decide (xs = ys))) H
theorem op_neInts (hu:X.A.units + 64 < cLine):OpR X (compareOp .NotEq) (rNeInts X.K):=by
 intro pins s σ H x y v u Q I rx ry h
 (refine o4_5 h fun a b xs ys y3_4 y3_5 h1 h2 q=>?_; try clear h; subst y3_4; subst y3_5)
 refine op_neD hu pins s σ H _ _ v u Q I rx ry ⟨_,_,.lst h1 (dp_ints xs),.lst h2 (dp_ints ys),shp_ints xs,shp_ints ys,?_⟩
 rw [PyData.eqv,eqv_ints]
 exact q
end
section
variable {X:Cx}
theorem rev_no_len:typeLookup (.type "list_reverseiterator") "__len__" = pure none:=by rw [typeLookup_type,builtinLookup_eq_fast]; kernel_rfl
theorem rev_hint:typeLookup (.type "list_reverseiterator") "__length_hint__" = pure (some (.builtin "list_reverseiterator.__length_hint__")):=by rw [typeLookup_type,builtinLookup_eq_fast]; kernel_rfl
theorem rev_hint_split:splitId "list_reverseiterator.__length_hint__" = some ("list_reverseiterator","__length_hint__"):=by decide +kernel
theorem rev_get {xs:List V} {i:Nat} (h:i < xs.length):xs.reverse[i]? = xs[xs.length - 1 - i]?:=List.getElem?_reverse h
def tListRev (K:PySem.W.Frag) (ta:TA):TE:=fun σ H Q=>ta σ H fun vs H1=>∃ (a:Addr) (xs:List V),vs = [.ref a]∧SqL K H1 a xs∧xs.length≤sizeLine∧∀ l:Addr,H1 l = none→Q (.ref l) (upd H1 l (.lst xs.reverse))
theorem pe_listrev {e:Expr} {ta:TA} {p1 p2 pos pos2:Pos} (hc:X.calm = true) (hgl:Gl X "list") (hml:X.mg "list" = none) (hgz:Gl X "reversed") (hmz:X.mg "reversed" = none) (ha:PA X [e] ta)
  (hs:starEach [e] X.env = [(false,eval e X.env)]:=by rfl):PE X (.Call (.Name "list" p1) [.Call (.Name "reversed" p2) [e] [] pos2] [] pos) (tListRev X.K ta):=by
 intro pins s σ H Q I h
 refine Call_ (ld_blt I hgl hml bo_list (PyProof.Rows.callWith_type1 (args_cons ?_) rfl rfl))
 refine Call_ (ld_blt I hgz hmz boot_reversed5 (PyProof.Rows.callWith_type1 (thn (ha pos2 pins s σ H _ I h) fun us s1 ⟨vs,H1,I1,r1,q1⟩=>?_) hs rfl))
 (refine o2_4 q1 fun a xs y4_2 hq hsz q=>?_; try clear q1; subst y4_2)
 (refine o1_2 (vals1 r1) fun u y5_1 ru=>?_; subst y5_1)
 cases (show u = Value.ref a from ru)
 refine o1_3 (I1.list hq) fun its rv pl hz=>?_
 have hlen:=rv.length
 have e0:((its.toArray.size:Nat):Int) - 1 = (xs.length:Int) - 1 - ((0:Nat):Int):=by simp only [List.size_toArray]; omega
 refine call_reversed_list pl.isList (args_nil ?_)
 generalize hB:s1.heap.objs.size = B
 have hR:(s1.heap.push (revObj a ((its.toArray.size:Int) - 1))).get? B = some (revObj a ((its.toArray.size:Int) - 1)):=by rw [← hB]; exact Heap.get?_push_size _ rfl
 have I2:Inv X pins σ H1 { s1 with heap:=s1.heap.push (revObj a ((its.toArray.size:Int) - 1)),toks:=s1.toks }:=I1.kept fun b o e=>Heap.get?_push_of_some _ e
 have fB:FpOk X pins H1 B:=I1.fpOk (Nat.le_of_eq hB) (I1.hok.fresh (Nat.le_of_eq hB))
 refine list_of_it (X:=X) (pins:=pins) (σ:=σ) (r:=B) (T:="list_reverseiterator") (n:=xs.length) (s:={ s1 with heap:=s1.heap.push (revObj a ((its.toArray.size:Int) - 1)) }) (H:=H1)
  (Pv:=fun i zs H'=>zs = xs.reverse.take i∧∃ S,H1 S = none∧H' = upd H1 S (.lst zs)) hsz I2 hR rfl (by decide) (by decide)
  (fun S hS=>⟨by simp,S,hS,rfl⟩) ?_ ?_ ?_
 ·intro S s2 E2 Q2 hS I3 all3 hQ2
  have hR3:s2.heap.IsRevIter B a ((xs.length:Int) - 1 - ((0:Nat):Int)):=⟨_,all3 _ _ hR,rfl,by rw [← e0]; rfl⟩
  refine o2_3 (I3.lst upd_same) fun lits lc _ hlS _=>?_
  have nB:B≠S:=fun z=>by
   (refine o1_3 hR3 fun o ho hcl _=>?_; try clear hR3)
   rw [z,hlS] at ho
   cases ho
   exact absurd hcl (by show ¬ (Value.type "list" = Value.type "list_reverseiterator"); decide)
  refine wpAny_pyIter_revIter hR3 (hQ2 B [B] (fun i h=>i≤xs.length∧h.IsRevIter B a ((xs.length:Int) - 1 - (i:Nat))) s2 I3 all3 (fun b hb=>?_) ⟨Nat.zero_le _,hR3⟩ (fun i h h' ⟨t1,t2⟩ k=>⟨t1,t2.at fun o e=>k _ o nB e⟩) ?_ ?_)
  ·obtain rfl:b = B:=by simpa using hb
   exact ⟨by rw [upd_ne nB]; exact fB.1,fB.2⟩
  ·(intro i s' H' zs E' hi I' hf oi9; refine o0_2 oi9 fun t1 t2=>?_; try clear oi9; intro hS'; rintro ⟨ez,S',hn',rfl⟩)
   have eS:S' = S:=by
    by_cases e:S = S'
    ·exact e.symm
    ·rw [upd_ne e,hS] at hS'; cases hS'
   subst eS
   have hqi:SqL X.K (upd H1 S' (.lst zs)) a xs:=(same_new hS).seq hq
   refine o1_3 (I'.list hqi) fun its' rv' pl' hz'=>?_
   refine o1_1 (show ∃ x,xs[xs.length - 1 - i]? = some x from ⟨_,List.getElem?_eq_getElem (by omega)⟩) fun x hx=>?_
   refine o1_2 (rv'.get hx) fun u' hu' ru'=>?_
   have e1:(xs.length:Int) - 1 - ((i:Nat):Int) = ((xs.length - 1 - i:Nat):Int):=by omega
   rw [e1] at t2
   refine o0_6 (hf B (by simp)) fun f0 f1 f2 f3 f4 f5=>?_
   refine wpAny_pyNext_rev_item t2 pl'.isList (x:=u') (by simpa using hu') fun h' st' sb=>?_
   have e2:((xs.length - 1 - i:Nat):Int) - 1 = (xs.length:Int) - 1 - ((i + 1:Nat):Int):=by omega
   rw [e2] at st'
   refine ⟨u',x,_,rfl,I'.turned (t':=s'.toks) (fun b ob hb e=>(sb.2 b hb).trans e) f0 f1 f3 f4 f5,ru',upd_same,⟨hi,st'⟩,fun b hb=>(hf b hb).1,?_,S',hS,?_⟩
   ·rw [ez,take_snoc ((rev_get hi).trans hx)]
   ·funext c
    by_cases z:c = S'
    ·rw [z,upd_same,upd_same]
    ·rw [upd_ne z,upd_ne z,upd_ne z]
  ·(intro s' H' zs E' I' hf oi17; refine o0_2 oi17 fun t1 t2=>?_; try clear oi17; intro hS' _)
   refine o0_6 (hf B (by simp)) fun f0 f1 f2 f3 f4 f5=>?_
   have e1:(xs.length:Int) - 1 - ((xs.length:Nat):Int) = -1:=by omega
   rw [e1] at t2
   exact wpAny_pyNext_rev_end (I.ok.hd hc) t2 fun h' eb=>⟨rfl,I'.turned (t':=s'.toks) (fun b ob hb e=>eb b ob hb e) f0 f1 f3 f4 f5⟩
 ·intro S s2 E2 Q2 ho hQ2
  have hT:s2.TypeIs (.ref B) "list_reverseiterator":=⟨_,ho,rfl⟩
  unfold Builtin.List.listLengthHint
  refine wpAny_bind (wpAny_specialOf hT rev_no_len ?_)
  show wpAny _ _ (specialOf (Value.ref B) (Str.ofString "__length_hint__") >>= _) _ _ _
  refine wpAny_bind (wpAny_specialOf hT rev_hint ?_)
  generalize hid:("list_reverseiterator.__length_hint__":String) = id0
  wp_delta
  rw [show splitId id0 = some ("list_reverseiterator","__length_hint__") from by subst hid; exact rev_hint_split]
  subst hid
  refine wpAny_bind (wpAny_isInstance (b:=true) hT (by rw [isSubtype_type]; kernel_rfl) ?_)
  refine wpAny_pure (hQ2 false)
 ·rintro S s' H' zs hS I' hS' ⟨ez,S',hn',rfl⟩
  have eS:S' = S:=by
   by_cases e:S = S'
   ·exact e.symm
   ·rw [upd_ne e,hS] at hS'; cases hS'
  subst eS
  rw [List.take_of_length_le (by simp)] at ez
  subst ez
  exact ⟨.ref S',_,I',rfl,q S' hS⟩
end
end W1
namespace Mi
open Rs
inductive Sy where
 | op | cp | ob | cb | cm | to | num | bool | list | pair | row | ty | bad | item | items
 deriving DecidableEq
def starts:Sy→Option (List Sy)
 | .num=>some []
 | .bool=>some []
 | .ty=>some []
 | .list=>some [.op,.item,.cp]
 | .pair=>some [.op,.item,.cm,.item,.cp]
 | .ob=>some [.row,.items,.to,.row,.items,.cb]
 | _=>none
def step (k:Sy):List Sy→Option (List Sy)
 | []=>none
 | .items :: r=>match starts k with
  | some p=>some (p ++ .items :: r)
  | none=>match r with
   | []=>none
   | v :: q=>if v = k then some q else none
 | .item :: r=>match starts k with
  | some p=>some (p ++ r)
  | none=>none
 | w :: r=>if w = k then some r else none
def wt:Sy→Nat
 | .cp=>1
 | .cb=>1
 | _=>0
def cnt:List Sy→Nat
 | []=>0
 | a :: r=>wt a + cnt r
def kd:ETok→Sy
 | .num=>.num
 | .bool=>.bool
 | .list=>.list
 | .pair=>.pair
 | .row _=>.row
 | .ty _=>.ty
 | .to=>.to
 | .openP=>.op
 | .closeP=>.cp
 | .openB=>.ob
 | .closeB=>.cb
 | .comma=>.cm
 | .bad=>.bad
def runE (n:Nat):List ET→List Sy→Option Nat
 | [],st=>if st = [.items] then none else some n
 | (p,t) :: r,st=>match step (kd t) st with
  | none=>some p
  | some st'=>if 40 < cnt st' then some p else runE n r st'
theorem runE_none {n p:Nat} {t:ETok} {r:List ET} {st:List Sy} (h:step (kd t) st = none):runE n ((p,t) :: r) st = some p:=by
 simp only [runE,h]
theorem runE_some {n p:Nat} {t:ETok} {r:List ET} {st st':List Sy} (h:step (kd t) st = some st') (hc:cnt st'≤40):runE n ((p,t) :: r) st = runE n r st':=by
 simp only [runE,h]
 rw [if_neg (by omega)]
theorem runE_deep {n p:Nat} {t:ETok} {r:List ET} {st st':List Sy} (h:step (kd t) st = some st') (hc:40 < cnt st'):runE n ((p,t) :: r) st = some p:=by
 simp only [runE,h]
 rw [if_pos hc]
theorem runE_nil {n:Nat} {st:List Sy} (h:st≠[.items]):runE n [] st = some n:=by
 simp only [runE]
 rw [if_neg h]
def Nx (st:List Sy):Prop:=st = []∨(∃ q,st = .to :: q)∨∃ q,st = .cb :: q
def Stop (d:Nat) (l:List ET):Prop:=l = []∨(∃ p r,l = (p,.to) :: r)∨∃ p r,l = (p,.closeB) :: r∧d≠0
def OkE {α:Type} (n:Nat) (rest:α→List ET) (l:List ET) (st st':List Sy):Except Nat α→Prop
 | .error p=>runE n l st = some p
 | .ok x=>(rest x).length < l.length∧runE n l st = runE n (rest x) st'
def TyOk (n f d:Nat) (l:List ET) (st:List Sy):Prop:=OkE n Prod.snd l (.item :: st) st (tyIn n f d l)
def OkR (n d:Nat) (l:List ET) (st:List Sy):Except Nat (Row × List ET)→Prop
 | .error p=>runE n l (.row :: .items :: st) = some p
 | .ok x=>x.2.length < l.length∧Stop d x.2∧runE n l (.row :: .items :: st) = runE n x.2 (.items :: st)
def RowOk (n f d:Nat) (l:List ET) (st:List Sy):Prop:=OkR n d l st (rowIn n f d l)
def OkM (n d:Nat) (l:List ET) (st:List Sy):Except Nat (Row × List ET)→Prop
 | .error p=>runE n l (.items :: st) = some p
 | .ok x=>x.2.length≤l.length∧Stop d x.2∧runE n l (.items :: st) = runE n x.2 (.items :: st)
def MoreOk (n f d:Nat) (a:Row) (l:List ET) (st:List Sy):Prop:=OkM n d l st (moreIn n f d a l)
def WantOk (n:Nat) (ok:List ET→Bool) (w:Sy) (l:List ET) (st:List Sy):Prop:=OkE n id l (w :: st) st (want n ok l)
theorem OkE.bind {α β:Type} {n:Nat} {rest:α→List ET} {rest':β→List ET} {l:List ET} {st st' st'':List Sy} {m:Except Nat α} {k:α→Except Nat β} (h:OkE n rest l st st' m)
  (hk:∀ x,(rest x).length < l.length→OkE n rest' (rest x) st' st'' (k x)):OkE n rest' l st st'' (thenE m k):=by
 cases m with
 | error p=>exact h
 | ok x =>
  have a:=hk x h.1
  show OkE n rest' l st st'' (k x)
  revert a
  cases k x with
  | error p=>exact fun a=>h.2.trans a
  | ok y=>exact fun a=>⟨Nat.lt_trans a.1 h.1,h.2.trans a.2⟩
theorem OkE.last {α β:Type} {n:Nat} {rest:α→List ET} {rest':β→List ET} {l:List ET} {st st':List Sy} {m:Except Nat α} {g:α→β} (h:OkE n rest l st st' m)
  (e:∀ x,rest' (g x) = rest x):OkE n rest' l st st' (thenE m fun x=>.ok (g x)):=by
 cases m with
 | error p=>exact h
 | ok x =>
  refine ⟨?_,?_⟩
  ·rw [e x]; exact h.1
  ·rw [e x]; exact h.2
theorem OkR.bind {β:Type} {n d:Nat} {rest':β→List ET} {l:List ET} {st st'':List Sy} {m:Except Nat (Row × List ET)} {k:Row × List ET→Except Nat β} (h:OkR n d l st m)
  (hk:∀ x,x.2.length < l.length→Stop d x.2→OkE n rest' x.2 (.items :: st) st'' (k x)):OkE n rest' l (.row :: .items :: st) st'' (thenE m k):=by
 cases m with
 | error p=>exact h
 | ok x =>
  have a:=hk x h.1 h.2.1
  show OkE n rest' l _ st'' (k x)
  revert a
  cases k x with
  | error p=>exact fun a=>h.2.2.trans a
  | ok y=>exact fun a=>⟨Nat.lt_trans a.1 h.1,h.2.2.trans a.2⟩
theorem cnt0 {a:Sy} {st:List Sy} (h:wt a = 0):cnt (a :: st) = cnt st:=by
 show wt a + cnt st = cnt st
 rw [h,Nat.zero_add]
theorem cnt1 {a:Sy} {st:List Sy} (h:wt a = 1):cnt (a :: st) = cnt st + 1:=by
 show wt a + cnt st = cnt st + 1
 rw [h,Nat.add_comm]
theorem lt2 {a b f:Nat} (h:a < b) (hb:2 * b + 2≤f):2 * a + 2≤f:=Nat.le_trans (Nat.add_le_add_right (Nat.mul_le_mul_left 2 (Nat.le_of_lt h)) 2) hb
theorem want_gen (n:Nat) (ok:List ET→Bool) (w:Sy) (hw:w≠.item∧w≠.items) (h0:ok [] = false) (h1:∀ p t r,ok ((p,t) :: r) = true↔kd t = w) (l:List ET) (st:List Sy) (hc:cnt st≤40):WantOk n ok w l st:=by
 unfold WantOk want
 have hs:∀ k,step k (w :: st) = if w = k then some st else none:=fun k=>by
  cases w <;> first | rfl | exact absurd rfl hw.1 | exact absurd rfl hw.2
 match l with
 | [] =>
  rw [h0,if_neg (by decide)]
  exact runE_nil (by intro e; injection e with e _; exact hw.2 e)
 | (p,t) :: r =>
  by_cases e:ok ((p,t) :: r) = true
  ·rw [if_pos e]
   refine ⟨by simp,runE_some (by rw [hs,if_pos ((h1 p t r).mp e).symm]) hc⟩
  ·rw [if_neg e]
   exact runE_none (by rw [hs,if_neg fun q=>e ((h1 p t r).mpr q.symm)])
theorem want_op (n:Nat) (l:List ET) (st:List Sy) (hc:cnt st≤40):WantOk n isOpenP .op l st :=
 want_gen n isOpenP .op (by decide) rfl (fun p t r=>by cases t <;> first | exact ⟨fun _=>rfl,fun _=>rfl⟩ | exact ⟨fun h=>absurd h Bool.false_ne_true,fun h=>by cases h⟩) l st hc
theorem want_cp (n:Nat) (l:List ET) (st:List Sy) (hc:cnt st≤40):WantOk n isCloseP .cp l st :=
 want_gen n isCloseP .cp (by decide) rfl (fun p t r=>by cases t <;> first | exact ⟨fun _=>rfl,fun _=>rfl⟩ | exact ⟨fun h=>absurd h Bool.false_ne_true,fun h=>by cases h⟩) l st hc
theorem want_cm (n:Nat) (l:List ET) (st:List Sy) (hc:cnt st≤40):WantOk n isComma .cm l st :=
 want_gen n isComma .cm (by decide) rfl (fun p t r=>by cases t <;> first | exact ⟨fun _=>rfl,fun _=>rfl⟩ | exact ⟨fun h=>absurd h Bool.false_ne_true,fun h=>by cases h⟩) l st hc
theorem want_after (n d:Nat) (ok:List ET→Bool) (w:Sy) (hw:w = .to∨w = .cb) (h0:ok [] = false) (h1:∀ p t r,ok ((p,t) :: r) = true↔kd t = w) (l:List ET) (st:List Sy) (hS:Stop d l) (hc:cnt st≤40):OkE n id l (.items :: w :: st) st (want n ok l):=by
 unfold want
 have hs:∀ k,starts k = none→step k (.items :: w :: st) = if w = k then some st else none:=fun k hk=>by
  simp only [step,hk]
 rcases hS with rfl | ⟨p,r,rfl⟩ | ⟨p,r,rfl,_⟩
 ·rw [h0,if_neg (by decide)]
  exact runE_nil (by simp)
 ·by_cases e:ok ((p,.to) :: r) = true
  ·rw [if_pos e]
   exact ⟨by simp,runE_some (by rw [hs _ rfl,if_pos ((h1 p _ r).mp e).symm]) hc⟩
  ·rw [if_neg e]
   exact runE_none (by rw [hs _ rfl,if_neg fun q=>e ((h1 p _ r).mpr q.symm)])
 ·by_cases e:ok ((p,.closeB) :: r) = true
  ·rw [if_pos e]
   exact ⟨by simp,runE_some (by rw [hs _ rfl,if_pos ((h1 p _ r).mp e).symm]) hc⟩
  ·rw [if_neg e]
   exact runE_none (by rw [hs _ rfl,if_neg fun q=>e ((h1 p _ r).mpr q.symm)])
theorem isTo_iff (p:Nat) (t:ETok) (r:List ET):isTo ((p,t) :: r) = true↔kd t = .to:=by
 cases t <;> first | exact ⟨fun _=>rfl,fun _=>rfl⟩ | exact ⟨fun h=>absurd h Bool.false_ne_true,fun h=>by cases h⟩
theorem isCloseB_iff (p:Nat) (t:ETok) (r:List ET):isCloseB ((p,t) :: r) = true↔kd t = .cb:=by
 cases t <;> first | exact ⟨fun _=>rfl,fun _=>rfl⟩ | exact ⟨fun h=>absurd h Bool.false_ne_true,fun h=>by cases h⟩
theorem cnt_append (a b:List Sy):cnt (a ++ b) = cnt a + cnt b:=by
 induction a with
 | nil=>simp [cnt]
 | cons x r ih=>simp only [List.cons_append,cnt,ih]; omega
theorem step_items {k:Sy} {st p:List Sy} (h:starts k = some p):step k (.items :: st) = step k (.item :: .items :: st):=by
 simp only [step,h]
theorem runE_items {n p:Nat} {t:ETok} {r:List ET} {st q:List Sy} (h:starts (kd t) = some q):runE n ((p,t) :: r) (.items :: st) = runE n ((p,t) :: r) (.item :: .items :: st):=by
 simp only [runE,step_items h]
theorem open_ok {n p d:Nat} {t:ETok} {q:List Sy} {r:List ET} {st:List Sy} {m:Except Nat (Ty × List ET)} (hs:starts (kd t) = some q) (hq:cnt q = 1) (hd:cnt st = d)
  (hm:d + 1≤40→OkE n Prod.snd r (q ++ st) st m):OkE n Prod.snd ((p,t) :: r) (.item :: st) st (if DEEP≤d then eFault n ((p,t) :: r) else m):=by
 have e:step (kd t) (.item :: st) = some (q ++ st):=by simp only [step,hs]
 have c:cnt (q ++ st) = d + 1:=by rw [cnt_append,hq,hd,Nat.add_comm]
 by_cases hD:DEEP≤d
 ·rw [if_pos hD]
  exact runE_deep e (by rw [c]; exact Nat.lt_succ_of_le hD)
 ·rw [if_neg hD]
  have h1:d + 1≤40:=Nat.lt_of_not_le hD
  have h2:=hm h1
  have h3:=runE_some (n:=n) (p:=p) (r:=r) e (Nat.le_trans (Nat.le_of_eq c) h1)
  revert h2
  cases m with
  | error p=>exact fun h2=>h3.trans h2
  | ok x=>exact fun h2=>⟨Nat.lt_succ_of_lt h2.1,h3.trans h2.2⟩
theorem ty_step (n f:Nat) (ihT:∀ l d st,2 * l.length + 1≤f→cnt st = d→d≤40→TyOk n f d l st)
  (ihR:∀ l d st,2 * l.length + 2≤f→cnt st = d→d≤40→Nx st→RowOk n f d l st)
  (l:List ET) (d:Nat) (st:List Sy) (hf:2 * l.length + 1≤f + 1) (hd:cnt st = d) (h40:d≤40):TyOk n (f + 1) d l st:=by
 match l with
 | []=>exact runE_nil (st:=.item :: st) (by simp)
 | (p,t) :: r =>
  have hl:2 * r.length + 2≤f:=Nat.le_of_succ_le_succ hf
  have hc:cnt st≤40:=hd ▸ h40
  have plain:step (kd t) (.item :: st) = some st→r.length < ((p,t) :: r).length∧runE n ((p,t) :: r) (.item :: st) = runE n r st:=fun h=>⟨Nat.lt_succ_self _,runE_some h hc⟩
  have bad:step (kd t) (.item :: st) = none→runE n ((p,t) :: r) (.item :: st) = some p:=runE_none
  have one:cnt (.cp :: st) = d + 1:=hd ▸ cnt1 rfl
  have two:cnt (.item :: .cp :: st) = d + 1:=(cnt0 rfl).trans one
  have three:cnt (.cm :: .item :: .cp :: st) = d + 1:=(cnt0 rfl).trans two
  have cbe:cnt (.cb :: st) = d + 1:=hd ▸ cnt1 rfl
  have tob:cnt (.row :: .items :: .cb :: st) = d + 1:=(cnt0 rfl).trans ((cnt0 rfl).trans cbe)
  have ty:∀ {a b:List ET} {s:List Sy},a.length < b.length→2 * b.length + 2≤f→cnt s = d + 1→d + 1≤40→TyOk n f (d + 1) a s:=fun h1 h2 h3 h4=>ihT _ _ _ (Nat.le_of_succ_le (lt2 h1 h2)) h3 h4
  cases t with
  | num=>exact plain rfl
  | bool=>exact plain rfl
  | ty k=>exact plain rfl
  | row k=>exact bad rfl
  | to=>exact bad rfl
  | openP=>exact bad rfl
  | closeP=>exact bad rfl
  | closeB=>exact bad rfl
  | comma=>exact bad rfl
  | bad=>exact bad rfl
  | list=>exact open_ok (q:=[.op,.item,.cp]) rfl rfl hd fun h1=>(want_op n r _ (two ▸ h1)).bind fun r1 g1=>(ty g1 hl one h1).bind fun x _=>(want_cp n x.2 st hc).last fun _=>rfl
  | pair =>
   exact open_ok (q:=[.op,.item,.cm,.item,.cp]) rfl rfl hd fun h1=>(want_op n r _ ((cnt0 (a:=.item) rfl).trans three ▸ h1)).bind fun r1 g1=>(ty g1 hl three h1).bind fun x g2 =>
    (want_cm n x.2 _ (two ▸ h1)).bind fun r2 g3=>(ty g3 (lt2 g2 (lt2 g1 hl)) one h1).bind fun y _=>(want_cp n y.2 st hc).last fun _=>rfl
  | openB =>
   exact open_ok (q:=[.row,.items,.to,.row,.items,.cb]) rfl rfl hd fun h1=>(ihR r (d + 1) (.to :: .row :: .items :: .cb :: st) hl ((cnt0 rfl).trans tob) h1 (.inr (.inl ⟨_,rfl⟩))).bind fun x g1 s1 =>
    (want_after n (d + 1) isTo .to (.inl rfl) rfl isTo_iff x.2 _ s1 (tob ▸ h1)).bind fun r1 g2=>(ihR r1 (d + 1) (.cb :: st) (lt2 g2 (lt2 g1 hl)) cbe h1 (.inr (.inr ⟨_,rfl⟩))).bind fun y _ s2 =>
    (want_after n (d + 1) isCloseB .cb (.inr rfl) rfl isCloseB_iff y.2 st s2 hc).last fun _=>rfl
theorem row_step (n f:Nat) (ihM:∀ a l d st,2 * l.length + 2≤f→cnt st = d→d≤40→Nx st→MoreOk n f d a l st)
  (l:List ET) (d:Nat) (st:List Sy) (hf:2 * l.length + 2≤f + 1) (hd:cnt st = d) (h40:d≤40) (hN:Nx st):RowOk n (f + 1) d l st:=by
 match l with
 | [] =>
  show runE n [] (.row :: .items :: st) = some n
  exact runE_nil (by simp)
 | (p,t) :: r =>
  have bad:kd t≠.row→runE n ((p,t) :: r) (.row :: .items :: st) = some p:=fun h=>runE_none (by
   show (if Sy.row = kd t then some _ else none) = none
   rw [if_neg fun e=>h e.symm])
  cases t with
  | row k =>
   have m:=ihM (.var k) r d st (Nat.le_of_succ_le (Nat.le_of_succ_le_succ hf)) hd h40 hN
   have e1:runE n ((p,.row k) :: r) (.row :: .items :: st) = runE n r (.items :: st):=runE_some rfl (Nat.le_trans (Nat.le_of_eq ((cnt0 rfl).trans hd)) h40)
   show OkR n d _ st (moreIn n f d (.var k) r)
   revert m
   unfold MoreOk
   cases moreIn n f d (.var k) r with
   | error p1=>exact fun m=>e1.trans m
   | ok x=>exact fun m=>⟨Nat.lt_succ_of_le m.1,m.2.1,e1.trans m.2.2⟩
  | num=>exact bad (by decide)
  | bool=>exact bad (by decide)
  | list=>exact bad (by decide)
  | pair=>exact bad (by decide)
  | ty k=>exact bad (by simp [kd])
  | to=>exact bad (by decide)
  | openP=>exact bad (by decide)
  | closeP=>exact bad (by decide)
  | openB=>exact bad (by decide)
  | closeB=>exact bad (by decide)
  | comma=>exact bad (by decide)
  | bad=>exact bad (by decide)
theorem more_step (n f:Nat) (ihT:∀ l d st,2 * l.length + 1≤f→cnt st = d→d≤40→TyOk n f d l st)
  (ihM:∀ a l d st,2 * l.length + 2≤f→cnt st = d→d≤40→Nx st→MoreOk n f d a l st)
  (a:Row) (l:List ET) (d:Nat) (st:List Sy) (hf:2 * l.length + 2≤f + 1) (hd:cnt st = d) (h40:d≤40) (hN:Nx st):MoreOk n (f + 1) d a l st:=by
 match l with
 | []=>exact ⟨Nat.le_refl _,.inl rfl,rfl⟩
 | (p,t) :: r =>
  have item:∀ {q},starts (kd t) = some q→MoreOk n (f + 1) d a ((p,t) :: r) st:=fun {q} hs=>by
   have e:moreIn n (f + 1) d a ((p,t) :: r) = thenE (tyIn n f d ((p,t) :: r)) (fun (y:Ty × List ET)=>moreIn n f d (.snoc a y.1) y.2):=by
    cases t <;> first | rfl | cases hs
   have t1:=ihT ((p,t) :: r) d (.items :: st) (Nat.le_of_succ_le_succ hf) ((cnt0 rfl).trans hd) h40
   have e2:=runE_items (n:=n) (p:=p) (r:=r) (st:=st) hs
   unfold MoreOk
   rw [e]
   revert t1
   unfold TyOk
   cases tyIn n f d ((p,t) :: r) with
   | error p1=>exact fun t1=>e2.trans t1
   | ok x =>
    intro t1
    have h1:x.2.length≤r.length:=Nat.le_of_lt_succ t1.1
    have m:=ihM (.snoc a x.1) x.2 d st (Nat.le_trans (Nat.add_le_add_right (Nat.mul_le_mul_left 2 h1) 2) (Nat.le_of_succ_le (Nat.le_of_succ_le_succ hf))) hd h40 hN
    show OkM n d _ st (moreIn n f d (.snoc a x.1) x.2)
    revert m
    unfold MoreOk
    cases moreIn n f d (.snoc a x.1) x.2 with
    | error p1=>exact fun m=>(e2.trans t1.2).trans m
    | ok y=>exact fun m=>⟨Nat.le_trans m.1 (Nat.le_of_lt t1.1),m.2.1,(e2.trans t1.2).trans m.2.2⟩
  have no:moreIn n (f + 1) d a ((p,t) :: r) = .error p→starts (kd t) = none→(∀ q,st = kd t :: q→False)→MoreOk n (f + 1) d a ((p,t) :: r) st:=fun e hs hk=>by
   unfold MoreOk
   rw [e]
   refine runE_none ?_
   simp only [step,hs]
   cases st with
   | nil=>rfl
   | cons v q=>exact if_neg fun e=>hk q (by rw [e])
  have nx:kd t≠.to→kd t≠.cb→∀ q,st = kd t :: q→False:=fun n1 n2 q e=>by
   rcases hN with h | ⟨x,h⟩ | ⟨x,h⟩
   ·rw [h] at e; cases e
   ·rw [h] at e; injection e with e _; exact n1 e.symm
   ·rw [h] at e; injection e with e _; exact n2 e.symm
  have ff:∃ g,f = g + 1:=⟨f - 1,(Nat.succ_pred_eq_of_pos (Nat.lt_of_lt_of_le (Nat.zero_lt_succ _) (Nat.le_of_succ_le_succ hf))).symm⟩
  (refine o1_1 ff fun g y1_1=>?_; subst y1_1)
  cases t with
  | to=>exact ⟨Nat.le_refl _,.inr (.inl ⟨_,_,rfl⟩),rfl⟩
  | closeB =>
   by_cases h0:d = 0
   ·exact no (if_pos h0) rfl fun q e=>by
     rw [e,cnt1 rfl,h0] at hd; cases hd
   ·have e:moreIn n (g + 1 + 1) d a ((p,.closeB) :: r) = .ok (a,(p,.closeB) :: r):=if_neg h0
    unfold MoreOk
    rw [e]
    exact ⟨Nat.le_refl _,.inr (.inr ⟨_,_,rfl,h0⟩),rfl⟩
  | num=>exact item rfl
  | bool=>exact item rfl
  | list=>exact item rfl
  | pair=>exact item rfl
  | ty k=>exact item rfl
  | openB=>exact item rfl
  | row k=>exact no rfl rfl (nx (fun h=>by cases h) (fun h=>by cases h))
  | openP=>exact no rfl rfl (nx (fun h=>by cases h) (fun h=>by cases h))
  | closeP=>exact no rfl rfl (nx (fun h=>by cases h) (fun h=>by cases h))
  | comma=>exact no rfl rfl (nx (fun h=>by cases h) (fun h=>by cases h))
  | bad=>exact no rfl rfl (nx (fun h=>by cases h) (fun h=>by cases h))
theorem all_run (n:Nat):∀ f:Nat,(∀ l d st,2 * l.length + 1≤f→cnt st = d→d≤40→TyOk n f d l st) ∧
  (∀ l d st,2 * l.length + 2≤f→cnt st = d→d≤40→Nx st→RowOk n f d l st) ∧
  (∀ a l d st,2 * l.length + 2≤f→cnt st = d→d≤40→Nx st→MoreOk n f d a l st)
 | 0=>⟨fun _ _ _ h=>by omega,fun _ _ _ h=>by omega,fun _ _ _ _ h=>by omega⟩
 | f + 1 =>
  let ⟨h1,h2,h3⟩:=all_run n f
  ⟨fun l d st a b c=>ty_step n f h1 h2 l d st a b c,fun l d st a b c e=>row_step n f h3 l d st a b c e,fun x l d st a b c e=>more_step n f h1 h3 x l d st a b c e⟩
theorem effect_run (t:Bytes):match effectIn t with
  | .error p=>runE t.length (eTokens t) [.row,.items,.to,.row,.items] = some p
  | .ok _=>runE t.length (eTokens t) [.row,.items,.to,.row,.items] = none:=by
 unfold effectIn
 simp only []
 refine o0_3 (all_run t.length (2 * (eTokens t).length + 4)) fun _ hR _=>?_
 have r1:=hR (eTokens t) 0 [.to,.row,.items] (by omega) rfl (by omega) (.inr (.inl ⟨_,rfl⟩))
 unfold RowOk at r1
 cases q1:rowIn t.length (2 * (eTokens t).length + 4) 0 (eTokens t) with
 | error p=>rw [q1] at r1; exact r1
 | ok x =>
  rw [q1] at r1
  obtain ⟨a,r⟩:=x
  simp only []
  have r1:r.length < (eTokens t).length∧Stop 0 r∧runE t.length (eTokens t) [.row,.items,.to,.row,.items] = runE t.length r [.items,.to,.row,.items]:=r1
  have w1:=want_after t.length 0 isTo .to (.inl rfl) rfl isTo_iff r [.row,.items] r1.2.1 (by decide)
  cases q2:want t.length isTo r with
  | error p=>rw [q2] at w1; simp only []; rw [r1.2.2]; exact w1
  | ok r1' =>
   rw [q2] at w1
   have w1:r1'.length < r.length∧runE t.length r [.items,.to,.row,.items] = runE t.length r1' [.row,.items]:=w1
   simp only []
   have r2:=hR r1' 0 [] (by have:=r1.1; have:=w1.1; omega) rfl (by omega) (.inl rfl)
   unfold RowOk at r2
   cases q3:rowIn t.length (2 * (eTokens t).length + 4) 0 r1' with
   | error p=>rw [q3] at r2; simp only []; rw [r1.2.2,w1.2]; exact r2
   | ok y =>
    rw [q3] at r2
    obtain ⟨b,r3⟩:=y
    simp only []
    rw [r1.2.2,w1.2,r2.2.2]
    match r3,r2.2.1 with
    | [],_=>rfl
    | (p,t') :: r4,hS =>
     simp only []
     rcases hS with h | ⟨p',r',h⟩ | ⟨p',r',h,h0⟩
     ·exact absurd h (by simp)
     ·injection h with h1 h2
      injection h1 with h3 h4
      subst h4
      exact runE_none rfl
     ·exact absurd rfl h0
end Mi
namespace Mi
open Rs
def isCap (c:Int):Bool:=decide (65≤c) && decide (c≤90)
def isSmall (c:Int):Bool:=decide (97≤c) && decide (c≤122)
def isDig (c:Int):Bool:=decide (48≤c) && decide (c≤57)
def isLet (c:Int):Bool:=isCap c || isSmall c
def inRun (c:Int):Bool:=isLet c || isDig c
def blanks:List Int:=[32,9,10,13]
def isBlk (c:Int):Bool:=decide (c ∈ blanks)
def fixed:List Sy:=[.op,.cp,.ob,.cb,.cm,.to,.num,.bool,.list,.pair]
def symBytes:Sy→List Int
 | .op=>[40]
 | .cp=>[41]
 | .ob=>[91]
 | .cb=>[93]
 | .cm=>[44]
 | .to=>[45,45]
 | .num=>[110,117,109]
 | .bool=>[98,111,111,108]
 | .list=>[108,105,115,116]
 | .pair=>[112,97,105,114]
 | _=>[]
def tailOk (d:List Int):Bool:=decide (d.length≤3) && (d.all isDig && (d.isEmpty || decide (d.headD 0≠48)))
def isVar:List Int→Bool
 | []=>false
 | c :: d=>isLet c && tailOk d
theorem isVar_cons (c:Int) (d:List Int):isVar (c :: d) = (isLet c && tailOk d):=rfl
def kindOf (part:List Int):Sy:=match fixed.find? (fun k=>decide (part = symBytes k)) with
 | some k=>k
 | none=>if isVar part = true then (if isCap (part.headD 0) = true then .row else .ty) else .bad
def rounds (d:List Int):Int:=d.foldl (fun a b=>a * 10 + b - 48) 0
def first (k:Sy):Int:=if k = .row then 65 else 97
def numOf (k:Sy) (part:List Int):Int:=if k = .row∨k = .ty then rounds part.tail * 26 + part.headD 0 - first k else 0
def tokEnd (l:List Int):Nat:=if l.take 2 = [45,45] then 2 else max (l.takeWhile inRun).length 1
theorem tokEnd_pos (l:List Int):1≤tokEnd l:=by unfold tokEnd; split <;> omega
abbrev Tk:=Sy × Int × Nat
def tok1 (at_:Nat) (l:List Int):Tk:=(kindOf (l.take (tokEnd l)),numOf (kindOf (l.take (tokEnd l))) (l.take (tokEnd l)),at_)
def toksF:Nat→Nat→List Int→List Tk
 | 0,_,_=>[]
 | _ + 1,_,[]=>[]
 | f + 1,a,c :: r=>(if isBlk c = true then [] else [tok1 a (c :: r)]) ++ toksF f (a + tokEnd (c :: r)) ((c :: r).drop (tokEnd (c :: r)))
theorem toksF_nil (f a:Nat):toksF f a [] = []:=by cases f <;> rfl
theorem toksF_fuel:∀ (f g a:Nat) (l:List Int),l.length≤f→l.length≤g→toksF f a l = toksF g a l
 | f,g,a,[],_,_=>by rw [toksF_nil,toksF_nil]
 | 0,_,_,c :: r,h,_=>by simp at h
 | _,0,_,c :: r,_,h=>by simp at h
 | f + 1,g + 1,a,c :: r,h1,h2=>by
  have hp:=tokEnd_pos (c :: r)
  have hl:((c :: r).drop (tokEnd (c :: r))).length≤r.length:=by rw [List.length_drop]; simp only [List.length_cons]; omega
  simp only [List.length_cons] at h1 h2
  simp only [toksF]
  rw [toksF_fuel f g _ _ (by omega) (by omega)]
def toks (a:Nat) (l:List Int):List Tk:=toksF l.length a l
theorem toks_nil (a:Nat):toks a [] = []:=rfl
theorem toks_cons (a:Nat) (c:Int) (r:List Int):toks a (c :: r) = (if isBlk c = true then [] else [tok1 a (c :: r)]) ++ toks (a + tokEnd (c :: r)) ((c :: r).drop (tokEnd (c :: r))):=by
 have hp:=tokEnd_pos (c :: r)
 have hl:((c :: r).drop (tokEnd (c :: r))).length≤r.length:=by rw [List.length_drop]; simp only [List.length_cons]; omega
 show toksF (r.length + 1) a (c :: r) = _
 simp only [toksF]
 rw [toksF_fuel r.length _ _ _ hl (Nat.le_refl _)]
 rfl
def bt (z:Int):UInt8:=UInt8.ofNat z.toNat
def InB (l:List Int):Prop:=∀ z ∈ l,0≤z∧z≤255
theorem byte_all {P:Int→Prop} (h:∀ n:Fin 256,P (n.val:Int)) {z:Int} (hz:0≤z∧z≤255):P z:=by
 have e:((z.toNat:Nat):Int) = z:=Int.toNat_of_nonneg hz.1
 have g:=h ⟨z.toNat,by omega⟩
 rw [← e]; exact g
theorem bt_nat {z:Int} (h:0≤z∧z≤255):(bt z).toNat = z.toNat:=byte_all (P:=fun z=>(bt z).toNat = z.toNat) (by decide +kernel) h
theorem toNat_inj {a b:Int} (ha:0≤a) (hb:0≤b) (e:a.toNat = b.toNat):a = b:=by rw [← Int.toNat_of_nonneg ha,e,Int.toNat_of_nonneg hb]
theorem bt_eq {z:Int} (h:0≤z∧z≤255) (n:Nat) (hn:n < 256):bt z = UInt8.ofNat n↔z = n :=
 ⟨fun e=>toNat_inj h.1 (Int.natCast_nonneg n) ((bt_nat h).symm.trans ((congrArg UInt8.toNat e).trans (UInt8.toNat_ofNat_of_lt' hn))),fun e=>by rw [e]; rfl⟩
theorem InB.cons {c:Int} {r:List Int} (h:InB (c :: r)):(0≤c∧c≤255)∧InB r:=⟨h c (by simp),fun z hz=>h z (by simp [hz])⟩
theorem InB.drop {l:List Int} (h:InB l) (n:Nat):InB (l.drop n):=fun z hz=>h z (List.mem_of_mem_drop hz)
theorem InB.takeWhile {l:List Int} (h:InB l) (p:Int→Bool):InB (l.takeWhile p):=fun z hz=>h z ((List.takeWhile_sublist p).subset hz)
theorem bt_dig {z:Int} (h:0≤z∧z≤255):isDigit (bt z) = isDig z:=byte_all (P:=fun z=>isDigit (bt z) = isDig z) (by decide +kernel) h
theorem bt_alnum {z:Int} (h:0≤z∧z≤255):alnum (bt z) = inRun z:=byte_all (P:=fun z=>alnum (bt z) = inRun z) (by decide +kernel) h
theorem bt_blank {z:Int} (h:0≤z∧z≤255):isBlank (bt z) = isBlk z:=byte_all (P:=fun z=>isBlank (bt z) = isBlk z) (by decide +kernel) h
theorem tw_map:∀ (l:List Int),InB l→(l.map bt).takeWhile alnum = (l.takeWhile inRun).map bt
 | [],_=>rfl
 | c :: r,h=>by
  refine o0_2 h.cons fun hc hr=>?_
  simp only [List.map_cons,List.takeWhile_cons,bt_alnum hc]
  split
  ·rw [List.map_cons,tw_map r hr]
  ·rfl
theorem dw_map:∀ (l:List Int),InB l→(l.map bt).dropWhile alnum = (l.dropWhile inRun).map bt
 | [],_=>rfl
 | c :: r,h=>by
  refine o0_2 h.cons fun hc hr=>?_
  simp only [List.map_cons,List.dropWhile_cons,bt_alnum hc]
  split
  ·rw [dw_map r hr]
  ·rw [List.map_cons]
theorem take_tw (p:Int→Bool):∀ l:List Int,l.take (l.takeWhile p).length = l.takeWhile p
 | []=>rfl
 | c :: r=>by
  rw [List.takeWhile_cons]
  split
  ·simp only [List.length_cons,List.take_succ_cons,take_tw p r]
  ·rfl
theorem drop_tw (p:Int→Bool):∀ l:List Int,l.drop (l.takeWhile p).length = l.dropWhile p
 | []=>rfl
 | c :: r=>by
  rw [List.takeWhile_cons,List.dropWhile_cons]
  split
  ·simp only [List.length_cons,List.drop_succ_cons,drop_tw p r]
  ·rfl
def et:Sy→Int→ETok
 | .num,_=>.num
 | .bool,_=>.bool
 | .list,_=>.list
 | .pair,_=>.pair
 | .row,z=>.row z.toNat
 | .ty,z=>.ty z.toNat
 | .to,_=>.to
 | .op,_=>.openP
 | .cp,_=>.closeP
 | .ob,_=>.openB
 | .cb,_=>.closeB
 | .cm,_=>.comma
 | _,_=>.bad
def etk (x:Tk):ET:=(x.2.2,et x.1 x.2.1)
theorem map_bt_inj:∀ {l m:List Int},InB l→InB m→l.map bt = m.map bt→l = m
 | [],[],_,_,_=>rfl
 | [],_ :: _,_,_,h=>by simp at h
 | _ :: _,[],_,_,h=>by simp at h
 | a :: l,b :: m,h1,h2,h=>by
  refine o0_2 h1.cons fun ha hl=>?_
  refine o0_2 h2.cons fun hb hm=>?_
  simp only [List.map_cons,List.cons.injEq] at h
  have e:a = b:=toNat_inj ha.1 hb.1 ((bt_nat ha).symm.trans ((congrArg UInt8.toNat h.1).trans (bt_nat hb)))
  rw [e,map_bt_inj hl hm h.2]
theorem eq_sym {l:List Int} (h:InB l) (m:List Int) (hm:InB m) (b:Bytes) (hb:m.map bt = b):l.map bt = b↔l = m:=by
 subst hb
 exact ⟨map_bt_inj h hm,fun e=>by rw [e]⟩
theorem digit_eq (a k f:Nat) {c:Int} (h:f≤c):(a:Int) * k + c - f = ((k * a + (c.toNat - f):Nat):Int):=by
 (refine o1_1 (Int.le.dest h) fun m y5_1=>?_; subst y5_1)
 have e:((f:Int) + m).toNat - f = m:=Nat.add_sub_cancel_left (n:=f) (m:=m)
 rw [e,Int.add_sub_assoc,Int.add_comm (f:Int) m,Int.add_sub_cancel,Nat.mul_comm]; rfl
theorem rounds_gen:∀ (d:List Int) (a:Nat),InB d→d.all isDig = true→d.foldl (fun a b=>a * 10 + b - 48) (a:Int) = (((d.map bt).foldl (fun (n:Nat) (c:UInt8)=>10 * n + (c.toNat - 48)) a:Nat):Int)
 | [],a,_,_=>rfl
 | c :: r,a,h,hd=>by
  refine o0_2 h.cons fun hc hr=>?_
  simp only [List.all_cons,Bool.and_eq_true] at hd
  have hc':48≤c∧c≤57:=by have:=hd.1; simp only [isDig,Bool.and_eq_true,decide_eq_true_eq] at this; exact this
  simp only [List.foldl_cons,List.map_cons]
  rw [bt_nat hc,← rounds_gen r (10 * a + (c.toNat - 48)) hr hd.2]
  exact congrArg (fun x=>List.foldl _ x r) (digit_eq a 10 48 hc'.1)
theorem rounds_eq {d:List Int} (h:InB d) (hd:d.all isDig = true):rounds d = (number (d.map bt):Int):=rounds_gen d 0 h hd
theorem all_dig:∀ {d:List Int},InB d→(d.map bt).all isDigit = d.all isDig
 | [],_=>rfl
 | c :: r,h=>by
  refine o0_2 h.cons fun hc hr=>?_
  simp only [List.map_cons,List.all_cons,bt_dig hc,all_dig hr]
theorem varNo_eq {d:List Int} (h:InB d) (n:Nat):varNo n (d.map bt) = if tailOk d = true then some (n + 26 * (rounds d).toNat) else none:=by
 unfold varNo tailOk
 match d,h with
 | [],_=>rfl
 | c :: r,h =>
  rw [if_neg (by simp),all_dig h,List.length_map]
  have e48:(List.map bt (c :: r)).head?≠some 48↔c≠48:=by
   simp only [List.map_cons,List.head?_cons,ne_eq,Option.some.injEq]
   rw [show (48:UInt8) = UInt8.ofNat 48 from rfl,bt_eq h.cons.1 48 (by decide)]
   rfl
  by_cases hd:(c :: r).all isDig = true
  ·rw [rounds_eq h hd]
   by_cases hl:(c :: r).length≤3
   ·by_cases h48:c = 48
    ·rw [if_neg (by intro q; exact e48.mp q.2.2 h48),if_neg (by simp [h48])]
    ·rw [if_pos ⟨hd,hl,e48.mpr h48⟩,if_pos (by simp only [hd,hl,List.headD_cons,ne_eq,h48,not_false_eq_true,decide_true,Bool.or_true,Bool.and_self])]
     rfl
   ·rw [if_neg (fun q=>hl q.2.1),if_neg (by simp only [hl,decide_false,Bool.false_and,Bool.false_eq_true,not_false_eq_true])]
  ·rw [if_neg (fun q=>hd q.1),if_neg (by simp only [Bool.not_eq_true] at hd; simp [hd])]
theorem num_eq (r c:Int) (f:Nat) (hr:0≤r) (h:f≤c):(r * 26 + c - f).toNat = c.toNat - f + 26 * r.toNat:=by
 (refine o1_1 (Int.eq_ofNat_of_zero_le hr) fun R y8_1=>?_; subst y8_1)
 exact (congrArg Int.toNat (digit_eq R 26 f h)).trans (Nat.add_comm _ _)
theorem capB {z:Int} (h:0≤z∧z≤255):(65≤z.toNat∧z.toNat≤90↔isCap z = true)∧(97≤z.toNat∧z.toNat≤122↔isSmall z = true)∧(isCap z = true→((65:Nat):Int)≤z)∧(isSmall z = true→((97:Nat):Int)≤z) :=
 byte_all (P:=fun z=>(65≤z.toNat∧z.toNat≤90↔isCap z = true)∧(97≤z.toNat∧z.toNat≤122↔isSmall z = true)∧(isCap z = true→((65:Nat):Int)≤z)∧(isSmall z = true→((97:Nat):Int)≤z)) (by decide +kernel) h
theorem tail_pos {d:List Int} (h:InB d) (hv:tailOk d = true):0≤rounds d:=by
 unfold tailOk at hv
 rw [Bool.and_eq_true,Bool.and_eq_true] at hv
 rw [rounds_eq h hv.2.1]
 exact Int.natCast_nonneg _
theorem run_kind {l:List Int} (hB:InB l) (hR:∀ z ∈ l,inRun z = true) (hne:l≠[]):et (kindOf l) (numOf (kindOf l) l) = eRun (l.map bt):=by
 cases hf:fixed.find? (fun k=>decide (l = symBytes k)) with
 | some k =>
  have hk:kindOf l = k:=by unfold kindOf; rw [hf]
  have e:l = symBytes k:=of_decide_eq_true (List.find?_some (p:=fun k=>decide (l = symBytes k)) hf)
  have m:=List.mem_of_find?_eq_some hf
  rw [hk]
  subst e
  clear hB hne hf hk
  have no:∀ z ∈ symBytes k,inRun z = false→False:=fun z hz h=>by rw [hR z hz] at h; cases h
  cases k <;> first | rfl | exact (no _ (.head _) rfl).elim | exact absurd m (by decide)
 | none =>
  have ne:∀ k ∈ fixed,∀ b,InB (symBytes k)→(symBytes k).map bt = b→¬ l.map bt = b:=fun k hk b hi hb e=>by
   have:=List.find?_eq_none.mp hf k hk
   exact this (decide_eq_true ((eq_sym hB _ hi _ hb).mp e))
  have hk:kindOf l = if isVar l = true then (if isCap (l.headD 0) = true then .row else .ty) else .bad:=by unfold kindOf; rw [hf]
  have ib:∀ k,(symBytes k).all (fun z=>decide (0≤z) && decide (z≤255)) = true→InB (symBytes k):=fun k h z hz=>by
   have:=List.all_eq_true.mp h z hz
   rw [Bool.and_eq_true] at this
   exact ⟨of_decide_eq_true this.1,of_decide_eq_true this.2⟩
  rw [hk]
  unfold eRun
  rw [if_neg (ne .num (by decide) _ (ib _ rfl) (by decide)),if_neg (ne .bool (by decide) _ (ib _ rfl) (by decide)),if_neg (ne .list (by decide) _ (ib _ rfl) (by decide)),if_neg (ne .pair (by decide) _ (ib _ rfl) (by decide))]
  clear ne ib hk hf
  cases l with
  | nil=>exact absurd rfl hne
  | cons c d =>
   refine o0_2 hB.cons fun hc hd=>?_
   refine o0_4 (capB hc) fun a1 a2 a3 a4=>?_
   rw [List.map_cons,List.headD_cons]
   dsimp only
   rw [bt_nat hc,varNo_eq hd,varNo_eq hd,isVar_cons]
   have tp:=tail_pos hd
   unfold isLet
   clear hR hne hB
   cases h1:isCap c with
   | true =>
    rw [if_pos (a1.mpr h1)]
    cases hv:tailOk d with
    | true=>exact congrArg ETok.row (num_eq (rounds d) c 65 (tp hv) (a3 h1))
    | false=>rfl
   | false =>
    rw [if_neg (fun q=>Bool.false_ne_true (h1.symm.trans (a1.mp q)))]
    cases h2:isSmall c with
    | true =>
     rw [if_pos (a2.mpr h2)]
     cases hv:tailOk d with
     | true=>exact congrArg ETok.ty (num_eq (rounds d) c 97 (tp hv) (a4 h2))
     | false=>rfl
    | false =>
     rw [if_neg (fun q=>Bool.false_ne_true (h2.symm.trans (a2.mp q)))]
     rfl
theorem lone {c:Int} (hc:0≤c∧c≤255):inRun c = true∨(kindOf [c] = .op∧bt c = 40)∨(kindOf [c] = .cp∧bt c = 41)∨(kindOf [c] = .ob∧bt c = 91)∨(kindOf [c] = .cb∧bt c = 93)∨(kindOf [c] = .cm∧bt c = 44)∨(kindOf [c] = .bad∧bt c≠40∧bt c≠41∧bt c≠91∧bt c≠93∧bt c≠44) :=
 byte_all (P:=fun c=>inRun c = true∨(kindOf [c] = .op∧bt c = 40)∨(kindOf [c] = .cp∧bt c = 41)∨(kindOf [c] = .ob∧bt c = 91)∨(kindOf [c] = .cb∧bt c = 93)∨(kindOf [c] = .cm∧bt c = 44)∨(kindOf [c] = .bad∧bt c≠40∧bt c≠41∧bt c≠91∧bt c≠93∧bt c≠44)) (by decide +kernel) hc
theorem lone_et {c:Int} (hc:0≤c∧c≤255) (hR:¬ inRun c = true):(if bt c = 40 then ETok.openP else if bt c = 41 then .closeP else if bt c = 91 then .openB else if bt c = 93 then .closeB else if bt c = 44 then .comma else .bad) = et (kindOf [c]) (numOf (kindOf [c]) [c]):=by
 rcases lone hc with h | ⟨k,e⟩ | ⟨k,e⟩ | ⟨k,e⟩ | ⟨k,e⟩ | ⟨k,e⟩ | ⟨k,e1,e2,e3,e4,e5⟩
 ·exact absurd h hR
 ·rw [k,e]; rfl
 ·rw [k,e]; rfl
 ·rw [k,e]; rfl
 ·rw [k,e]; rfl
 ·rw [k,e]; rfl
 ·rw [k,if_neg e1,if_neg e2,if_neg e3,if_neg e4,if_neg e5]; rfl
theorem eTok_cons (k a:Nat) (c:UInt8) (r:Bytes):eTokensIn (k + 1) a (c :: r) = if isBlank c = true then eTokensIn k (a + 1) r
  else if alnum c = true then (a,eRun ((c :: r).takeWhile alnum)) :: eTokensIn k (a + ((c :: r).takeWhile alnum).length) ((c :: r).dropWhile alnum)
  else if c = 45∧r.head? = some 45 then (a,.to) :: eTokensIn k (a + 2) (r.drop 1)
  else (a,if c = 40 then .openP else if c = 41 then .closeP else if c = 91 then .openB else if c = 93 then .closeB else if c = 44 then .comma else .bad) :: eTokensIn k (a + 1) r:=rfl
theorem two_iff (c:Int):∀ r:List Int,(c :: r).take 2 = [45,45]↔(c = 45∧r.head? = some 45)
 | []=>⟨fun h=>(by cases h),fun h=>(by cases h.2)⟩
 | x :: r=>⟨fun h=>⟨(List.cons.inj h).1,congrArg some (List.cons.inj (List.cons.inj h).2).1⟩,fun h=>(by rw [h.1,Option.some.inj h.2]; rfl)⟩
theorem two_bt {c:Int} (hc:0≤c∧c≤255):∀ {r:List Int},InB r→((bt c = 45∧(r.map bt).head? = some 45)↔(c = 45∧r.head? = some 45))
 | [],_=>⟨fun h=>(by cases h.2),fun h=>(by cases h.2)⟩
 | x :: r,hr=>⟨fun h=>⟨(bt_eq hc 45 (by decide)).mp h.1,congrArg some ((bt_eq hr.cons.1 45 (by decide)).mp (Option.some.inj h.2))⟩,fun h=>⟨(bt_eq hc 45 (by decide)).mpr h.1,congrArg some ((bt_eq hr.cons.1 45 (by decide)).mpr (Option.some.inj h.2))⟩⟩
theorem end_one {c:Int} {r:List Int} (h:inRun c = false) (h2:¬ (c = 45∧r.head? = some 45)):tokEnd (c :: r) = 1:=by
 unfold tokEnd
 rw [if_neg (fun q=>h2 ((two_iff c r).mp q)),List.takeWhile_cons,h]
 rfl
theorem end_run {c:Int} {r:List Int} (h:inRun c = true):tokEnd (c :: r) = ((c :: r).takeWhile inRun).length:=by
 unfold tokEnd
 rw [if_neg (fun q=>by rw [((two_iff c r).mp q).1] at h; cases h),List.takeWhile_cons,h]
 exact Nat.max_eq_left (Nat.succ_le_succ (Nat.zero_le _))
theorem blank_no {c:Int} (hc:0≤c∧c≤255):isBlk c = true→inRun c = false∧c≠45:=byte_all (P:=fun c=>isBlk c = true→inRun c = false∧c≠45) (by decide +kernel) hc
theorem toks_spec:∀ (f a:Nat) (l:List Int),InB l→eTokensIn f a (l.map bt) = (toksF f a l).map etk
 | 0,_,_,_=>rfl
 | _ + 1,_,[],_=>rfl
 | f + 1,a,c :: r,h=>by
  refine o0_2 h.cons fun hc hr=>?_
  have ih:=toks_spec f
  rw [List.map_cons,eTok_cons,bt_blank hc,bt_alnum hc]
  unfold toksF
  by_cases hb:isBlk c = true
  ·refine o0_2 (blank_no hc hb) fun n1 n2=>?_
   rw [if_pos hb,if_pos hb,end_one n1 (fun q=>n2 q.1)]
   exact ih (a + 1) r hr
  ·rw [if_neg hb,if_neg hb]
   by_cases hR:inRun c = true
   ·rw [if_pos hR,← List.map_cons,tw_map _ h,dw_map _ h,List.length_map,← drop_tw,end_run hR]
    refine congr (congrArg List.cons (congrArg (Prod.mk a) ?_)) (ih _ _ (h.drop _))
    show _ = et (kindOf _) (numOf (kindOf _) _)
    rw [end_run hR,take_tw]
    exact (run_kind (h.takeWhile _) (List.all_eq_true.mp List.all_takeWhile) (by rw [List.takeWhile_cons,if_pos hR]; exact List.cons_ne_nil _ _)).symm
   ·rw [if_neg hR]
    by_cases h2:c = 45∧r.head? = some 45
    ·have he:tokEnd (c :: r) = 2:=if_pos ((two_iff c r).mpr h2)
     rw [if_pos ((two_bt hc hr).mpr h2),← List.map_drop,he]
     refine congr (congrArg List.cons (congrArg (Prod.mk a) ?_)) (ih _ _ (hr.drop 1))
     show _ = et (kindOf _) (numOf (kindOf _) _)
     rw [he,(two_iff c r).mpr h2]
     rfl
    ·have he:tokEnd (c :: r) = 1:=end_one (eq_false_of_ne_true hR) h2
     rw [if_neg (fun q=>h2 ((two_bt hc hr).mp q)),he]
     refine congr (congrArg List.cons (congrArg (Prod.mk a) ?_)) (ih _ _ hr)
     show _ = et (kindOf _) (numOf (kindOf _) _)
     rw [he]
     exact lone_et hc hR
theorem tokens_eq {l:List Int} (h:InB l):eTokens (l.map bt) = (toks 0 l).map etk:=by
 unfold eTokens toks
 rw [List.length_map]
 exact toks_spec _ _ _ h
end Mi
namespace Mi
open Rs
def runT (n:Nat):List Tk→List Sy→Option Nat
 | [],st=>if st = [.items] then none else some n
 | x :: r,st=>match step x.1 st with
  | none=>some x.2.2
  | some st'=>if 40 < cnt st' then some x.2.2 else runT n r st'
def goodK (k:Sy):Bool:=match k with
 | .item=>false
 | .items=>false
 | _=>true
theorem kd_et:∀ {k:Sy} (z:Int),goodK k = true→kd (et k z) = k
 | .item,_,h=>by simp [goodK] at h
 | .items,_,h=>by simp [goodK] at h
 | .num,_,_=>rfl
 | .bool,_,_=>rfl
 | .list,_,_=>rfl
 | .pair,_,_=>rfl
 | .row,_,_=>rfl
 | .ty,_,_=>rfl
 | .to,_,_=>rfl
 | .op,_,_=>rfl
 | .cp,_,_=>rfl
 | .ob,_,_=>rfl
 | .cb,_,_=>rfl
 | .cm,_,_=>rfl
 | .bad,_,_=>rfl
theorem kindOf_good (p:List Int):goodK (kindOf p) = true:=by
 unfold kindOf
 split
 ·rename_i k e
  have hm:=List.mem_of_find?_eq_some e
  simp [fixed] at hm
  rcases hm with rfl | rfl | rfl | rfl | rfl | rfl | rfl | rfl | rfl | rfl <;> rfl
 ·split
  ·split <;> rfl
  ·rfl
theorem toksF_good:∀ (f a:Nat) (l:List Int),∀ x ∈ toksF f a l,goodK x.1 = true
 | 0,_,_,x,h=>by simp [toksF] at h
 | _ + 1,_,[],x,h=>by simp [toksF] at h
 | f + 1,a,c :: r,x,h=>by
  simp only [toksF,List.mem_append] at h
  rcases h with h | h
  ·split at h
   ·simp at h
   ·simp only [List.mem_singleton] at h
    subst h
    exact kindOf_good _
  ·exact toksF_good f _ _ x h
theorem toks_good (a:Nat) (l:List Int):∀ x ∈ toks a l,goodK x.1 = true:=toksF_good _ _ _
theorem runT_eq (n:Nat):∀ (l:List Tk) (st:List Sy),(∀ x ∈ l,goodK x.1 = true)→runE n (l.map etk) st = runT n l st
 | [],st,_=>rfl
 | x :: r,st,h=>by
  simp only [List.map_cons,etk,runE,runT,kd_et x.2.1 (h x (by simp))]
  cases step x.1 st with
  | none=>rfl
  | some st' =>
   simp only []
   split
   ·rfl
   ·exact runT_eq n r st' fun y hy=>h y (by simp [hy])
def start0:List Sy:=[.row,.items,.to,.row,.items]
def fault (l:List Int):Option Nat:=runT l.length (toks 0 l) start0
theorem effect_fault {l:List Int} (h:InB l):match effectIn (l.map bt) with
  | .error p=>fault l = some p
  | .ok _=>fault l = none:=by
 have e:=effect_run (l.map bt)
 rw [tokens_eq h,List.length_map,runT_eq _ _ _ (toks_good 0 l)] at e
 exact e
theorem text_of {l:List Int} (h:InB l):text? l = some (l.map bt):=by
 unfold text?
 rw [if_pos]
 ·rfl
 ·unfold NeutralIO.bytes
  rw [List.all_eq_true]
  intro z hz
  have:=h z hz
  simp only [Bool.and_eq_true,decide_eq_true_eq]
  exact this
end Mi
namespace Mi
def runL (l:List Int) (e:Nat):Nat:=((l.drop e).takeWhile inRun).length
theorem drop_at {α:Type} {l:List α} {e:Nat} {c:α} (h:l[e]? = some c):l.drop e = c :: l.drop (e + 1):=by
 refine o1_1 (List.getElem?_eq_some_iff.mp h) fun h1 h2=>?_
 rw [List.drop_eq_getElem_cons h1,h2]
theorem runL_in {l:List Int} {e:Nat} {c:Int} (h:l[e]? = some c) (hr:inRun c = true):runL l e = runL l (e + 1) + 1:=by
 unfold runL
 rw [drop_at h,List.takeWhile_cons,if_pos hr,List.length_cons]
theorem runL_out {l:List Int} {e:Nat} {c:Int} (h:l[e]? = some c) (hr:inRun c = false):runL l e = 0:=by
 unfold runL
 rw [drop_at h,List.takeWhile_cons,if_neg (by rw [hr]; simp)]
 rfl
theorem runL_end {l:List Int} {e:Nat} (h:l.length≤e):runL l e = 0:=by
 unfold runL
 rw [List.drop_eq_nil_of_le h]
 rfl
theorem tokEnd_run {l:List Int} {j:Nat} (h:(l.drop j).take 2≠[45,45]):tokEnd (l.drop j) = max (runL l j) 1:=by
 unfold tokEnd runL
 rw [if_neg h]
theorem tokEnd_to {l:List Int} {j:Nat} (h:(l.drop j).take 2 = [45,45]):tokEnd (l.drop j) = 2:=by
 unfold tokEnd
 rw [if_pos h]
theorem tokEnd_le {l:List Int} (h:l≠[]):tokEnd l≤l.length:=by
 unfold tokEnd
 have h1:1≤l.length:=by
  match l,h with
  | c :: r,_=>simp
 split
 ·rename_i e
  have:=congrArg List.length e
  rw [List.length_take] at this
  simp only [List.length_cons,List.length_nil] at this
  omega
 ·have:=(List.takeWhile_sublist inRun (l:=l)).length_le
  omega
theorem toks_step {l:List Int} {j:Nat} {c:Int} (h:l[j]? = some c):toks j (l.drop j) = (if isBlk c = true then [] else [tok1 j (l.drop j)]) ++ toks (j + tokEnd (l.drop j)) (l.drop (j + tokEnd (l.drop j))):=by
 have e:=drop_at h
 have q:=toks_cons j c (l.drop (j + 1))
 rw [← e,List.drop_drop] at q
 exact q
theorem toks_len:∀ (f a:Nat) (l:List Int),(toksF f a l).length≤l.length
 | 0,_,_=>by simp [toksF]
 | _ + 1,_,[]=>by simp [toksF]
 | f + 1,a,c :: r=>by
  have hp:=tokEnd_pos (c :: r)
  have ih:=toks_len f (a + tokEnd (c :: r)) ((c :: r).drop (tokEnd (c :: r)))
  simp only [toksF,List.length_append]
  rw [List.length_drop] at ih
  simp only [List.length_cons] at ih ⊢
  split
  ·simp only [List.length_nil]; omega
  ·simp only [List.length_cons,List.length_nil]; omega
theorem wt_two (a:Sy):(if (a == .cp) = true then 1 else 0) + (if (a == .cb) = true then 1 else 0) = wt a:=by cases a <;> rfl
theorem cnt_count:∀ l:List Sy,l.count .cp + l.count .cb = cnt l
 | []=>rfl
 | a :: r=>by
  rw [List.count_cons,List.count_cons,Nat.add_add_add_comm,cnt_count r,wt_two,Nat.add_comm]
  rfl
def Bot (st:List Sy):Prop:=∃ q,st = q ++ [.items]
theorem Bot.ne {st:List Sy} (h:Bot st):st≠[]:=by
 (refine o1_1 h fun q y2_1=>?_; subst y2_1)
 simp
theorem Bot.cons {a:Sy} {r:List Sy} (h:Bot (a :: r)):(a = .items∧r = [])∨Bot r:=by
 refine o1_1 h fun q h=>?_
 match q,h with
 | [],h=>simp at h; exact .inl h
 | b :: q,h =>
  simp only [List.cons_append,List.cons.injEq] at h
  exact .inr ⟨q,h.2⟩
theorem Bot.app {r:List Sy} (p:List Sy) (h:Bot r):Bot (p ++ r):=by
 (refine o1_1 h fun q y4_1=>?_; subst y4_1)
 exact ⟨p ++ q,by simp⟩
theorem starts_len (k:Sy) {p:List Sy} (h:starts k = some p):p.length≤6:=by
 cases k <;> first | (cases h; done) | (rw [← Option.some.inj h]; decide)
theorem step_other {k w:Sy} {r:List Sy} (h1:w≠.items) (h2:w≠.item):step k (w :: r) = if w = k then some r else none:=by
 cases w <;> first | exact absurd rfl h1 | exact absurd rfl h2 | rfl
theorem step_inv {k:Sy} {st st':List Sy} (h:step k st = some st'):∃ w r,st = w :: r∧((∃ p,starts k = some p∧((w = .items∧st' = p ++ w :: r)∨(w = .item∧st' = p ++ r)))∨(w = .items∧r = k :: st')∨(w = k∧w≠.items∧st' = r)):=by
 cases st with
 | nil=>cases h
 | cons w r =>
  refine ⟨w,r,rfl,?_⟩
  by_cases h1:w = .items
  ·subst h1
   cases e:starts k with
   | some p =>
    simp only [step,e] at h
    exact .inl ⟨p,rfl,.inl ⟨rfl,(Option.some.inj h).symm⟩⟩
   | none =>
    simp only [step,e] at h
    cases r with
    | nil=>cases h
    | cons v q =>
     by_cases ev:v = k
     ·exact .inr (.inl ⟨rfl,by rw [ev,Option.some.inj ((if_pos ev).symm.trans h)]⟩)
     ·cases (if_neg ev).symm.trans h
  ·by_cases h2:w = .item
   ·subst h2
    cases e:starts k with
    | some p =>
     simp only [step,e] at h
     exact .inl ⟨p,rfl,.inr ⟨rfl,(Option.some.inj h).symm⟩⟩
    | none =>
     simp only [step,e] at h
     cases h
   ·rw [step_other h1 h2] at h
    by_cases ev:w = k
    ·exact .inr (.inr ⟨ev,h1,(Option.some.inj ((if_pos ev).symm.trans h)).symm⟩)
    ·cases (if_neg ev).symm.trans h
theorem step_bot {k:Sy} {st st':List Sy} (hk:goodK k = true) (hb:Bot st) (h:step k st = some st'):Bot st'∧st'.length≤st.length + 6:=by
 (refine o2_2 (step_inv h) fun w r y5_2 c=>?_; subst y5_2)
 have up:∀ n,n≤n + 6:=fun n=>Nat.le_add_right n 6
 rcases c with ⟨p,e,⟨rfl,rfl⟩ | ⟨rfl,rfl⟩⟩ | ⟨rfl,rfl⟩ | ⟨rfl,hw,rfl⟩
 ·exact ⟨hb.app p,by rw [List.length_append,Nat.add_comm]; exact Nat.add_le_add_left (starts_len k e) _⟩
 ·rcases hb.cons with ⟨z,_⟩ | hb
  ·cases z
  ·exact ⟨hb.app p,by rw [List.length_append,Nat.add_comm]; exact Nat.add_le_add (Nat.le_succ _) (starts_len k e)⟩
 ·rcases hb.cons with ⟨_,z⟩ | hb
  ·cases z
  ·rcases hb.cons with ⟨z,_⟩ | hb
   ·rw [z] at hk
    cases hk
   ·exact ⟨hb,Nat.le_trans (Nat.le_add_right st'.length 2) (up _)⟩
 ·rcases hb.cons with ⟨z,_⟩ | hb
  ·exact absurd z hw
  ·exact ⟨hb,Nat.le_trans (Nat.le_succ _) (up _)⟩
theorem start_bot:Bot start0:=⟨[.row,.items,.to,.row],rfl⟩
end Mi
namespace Mi
def NoII:List Sy→Prop
 | a :: b :: r=>¬ (a = .items∧b = .items)∧NoII (b :: r)
 | _=>True
theorem NoII.tail {a:Sy} {r:List Sy} (h:NoII (a :: r)):NoII r:=by
 match r,h with
 | [],_=>trivial
 | b :: r,h=>exact h.2
theorem NoII.app:∀ {p:List Sy} {x:Sy} {r:List Sy},x≠.items→NoII (p ++ [x])→NoII r→NoII (p ++ x :: r)
 | [],x,[],hx,_,_=>trivial
 | [],x,b :: r,hx,_,hr=>⟨fun q=>hx q.1,hr⟩
 | [a],x,r,hx,hp,hr=>⟨hp.1,NoII.app (p:=[]) hx trivial hr⟩
 | a :: b :: p,x,r,hx,hp,hr=>⟨hp.1,NoII.app (p:=b :: p) hx hp.2 hr⟩
theorem starts_ii {k:Sy} {p r:List Sy} (h:starts k = some p) (hr:NoII r):NoII (p ++ r):=by
 have c:∀ (q:List Sy) (x:Sy),x≠.items→NoII (q ++ [x])→NoII ((q ++ [x]) ++ r):=fun q x hx hq=>by
  rw [List.append_assoc]
  exact NoII.app hx hq hr
 cases k <;> simp only [starts,Option.some.injEq,reduceCtorEq] at h <;> subst h
 ·exact c [.row,.items,.to,.row,.items] .cb (by simp) (by simp [NoII])
 ·exact hr
 ·exact hr
 ·exact c [.op,.item] .cp (by simp) (by simp [NoII])
 ·exact c [.op,.item,.cm,.item] .cp (by simp) (by simp [NoII])
 ·exact hr
theorem step_ii {k:Sy} {st st':List Sy} (hb:NoII st) (h:step k st = some st'):NoII st':=by
 (refine o2_2 (step_inv h) fun w r y6_2 c=>?_; subst y6_2)
 rcases c with ⟨p,e,⟨rfl,rfl⟩ | ⟨rfl,rfl⟩⟩ | ⟨rfl,rfl⟩ | ⟨rfl,hw,rfl⟩
 ·exact starts_ii e hb
 ·exact starts_ii e hb.tail
 ·exact hb.tail.tail
 ·exact hb.tail
theorem start_ii:NoII start0:=by simp [NoII,start0]
end Mi
namespace Mi
open Rs
mutual
def tTy:Ty→List ETok
 | .num=>[.num]
 | .bool=>[.bool]
 | .list t=>.list :: .openP :: (tTy t ++ [.closeP])
 | .pair a b=>.pair :: .openP :: (tTy a ++ (.comma :: (tTy b ++ [.closeP])))
 | .fn r s=>.openB :: (tRow r ++ (.to :: (tRow s ++ [.closeB])))
 | .var n=>[.ty n]
def tRow:Row→List ETok
 | .var n=>[.row n]
 | .snoc r t=>tRow r ++ tTy t
end
def tEff (e:Effect):List ETok:=tRow e.before ++ (.to :: tRow e.behind)
def sn (l:List ET):List ETok:=l.map (·.2)
theorem sn_cons (x:ET) (l:List ET):sn (x :: l) = x.2 :: sn l:=rfl
theorem thenE_inv {α β:Type} {x:Except Nat α} {f:α→Except Nat β} {z:β} (h:thenE x f = .ok z):∃ y,x = .ok y∧f y = .ok z:=by
 cases x with
 | error e=>simp [thenE] at h
 | ok y=>exact ⟨y,rfl,h⟩
theorem want_inv {n:Nat} {ok:List ET→Bool} {l r:List ET} (h:want n ok l = .ok r):ok l = true∧l.drop 1 = r:=by
 unfold want at h
 by_cases e:ok l = true
 ·rw [if_pos e] at h
  exact ⟨e,by injection h⟩
 ·rw [if_neg e] at h
  unfold eFault at h
  cases h
theorem want_tok {n:Nat} {ok:List ET→Bool} {w:ETok} (hok:∀ l,ok l = true→∃ p r,l = (p,w) :: r) {l r:List ET} (h:want n ok l = .ok r):sn l = w :: sn r:=by
 refine o0_2 (want_inv h) fun h1 h2=>?_
 (refine o2_1 (hok l h1) fun p r' y2_2=>?_; subst y2_2)
 simp only [List.drop_succ_cons,List.drop_zero] at h2
 subst h2
 rfl
theorem openP_is (l:List ET) (h:isOpenP l = true):∃ p r,l = (p,.openP) :: r:=by
 match l,h with
 | [],h=>exact absurd h Bool.false_ne_true
 | (p,t) :: r,h=>cases t <;> first | exact ⟨p,r,rfl⟩ | exact absurd h Bool.false_ne_true
theorem closeP_is (l:List ET) (h:isCloseP l = true):∃ p r,l = (p,.closeP) :: r:=by
 match l,h with
 | [],h=>exact absurd h Bool.false_ne_true
 | (p,t) :: r,h=>cases t <;> first | exact ⟨p,r,rfl⟩ | exact absurd h Bool.false_ne_true
theorem comma_is (l:List ET) (h:isComma l = true):∃ p r,l = (p,.comma) :: r:=by
 match l,h with
 | [],h=>exact absurd h Bool.false_ne_true
 | (p,t) :: r,h=>cases t <;> first | exact ⟨p,r,rfl⟩ | exact absurd h Bool.false_ne_true
theorem to_is (l:List ET) (h:isTo l = true):∃ p r,l = (p,.to) :: r:=by
 match l,h with
 | [],h=>exact absurd h Bool.false_ne_true
 | (p,t) :: r,h=>cases t <;> first | exact ⟨p,r,rfl⟩ | exact absurd h Bool.false_ne_true
theorem closeB_is (l:List ET) (h:isCloseB l = true):∃ p r,l = (p,.closeB) :: r:=by
 match l,h with
 | [],h=>exact absurd h Bool.false_ne_true
 | (p,t) :: r,h=>cases t <;> first | exact ⟨p,r,rfl⟩ | exact absurd h Bool.false_ne_true
theorem eFault_ne {α:Type} {n:Nat} {l:List ET} {x:α}:(eFault n l:Except Nat α)≠.ok x:=by
 unfold eFault
 intro h
 cases h
theorem app1 (a b:List ETok) (c:ETok):a ++ (c :: b) = (a ++ [c]) ++ b:=by rw [List.append_assoc]; rfl
theorem app2 (a b c:List ETok) (x y:ETok):a ++ (x :: (b ++ (y :: c))) = (a ++ (x :: (b ++ [y]))) ++ c:=by rw [List.append_assoc,List.cons_append,List.append_assoc]; rfl
theorem ite_ok {α:Type} {c:Prop} [Decidable c] {n:Nat} {l:List ET} {b:Except Nat α} {x:α} (h:(if c then eFault n l else b) = .ok x):b = .ok x:=by
 by_cases e:c
 ·rw [if_pos e] at h; exact absurd h eFault_ne
 ·rw [if_neg e] at h; exact h
theorem parse_toks (n:Nat):∀ f:Nat,(∀ d l x,tyIn n f d l = .ok x→sn l = tTy x.1 ++ sn x.2)∧(∀ d l x,rowIn n f d l = .ok x→sn l = tRow x.1 ++ sn x.2)∧(∀ d a l x,moreIn n f d a l = .ok x→tRow a ++ sn l = tRow x.1 ++ sn x.2)
 | 0=>⟨fun d l x h=>absurd h eFault_ne,fun d l x h=>absurd h eFault_ne,fun d a l x h=>absurd h eFault_ne⟩
 | f + 1=>by
  refine o0_3 (parse_toks n f) fun hT hR hM=>?_
  refine ⟨fun d l x h=>?_,fun d l x h=>?_,fun d a l x h=>?_⟩
  ·cases l with
   | nil=>exact absurd (show (eFault n []:Except Nat (Ty × List ET)) = .ok x from h) eFault_ne
   | cons y r =>
    obtain ⟨p,t⟩:=y
    have ok:∀ y:Ty × List ET,(Except.ok y:Except Nat _) = .ok x→sn ((p,t) :: r) = tTy y.1 ++ sn y.2→sn ((p,t) :: r) = tTy x.1 ++ sn x.2:=fun y e q=>by rw [← Except.ok.inj e]; exact q
    have no:(eFault n ((p,t) :: r):Except Nat (Ty × List ET)) = .ok x→sn ((p,t) :: r) = tTy x.1 ++ sn x.2:=fun e=>absurd e eFault_ne
    cases t with
    | num=>exact ok _ h rfl
    | bool=>exact ok _ h rfl
    | ty k=>exact ok _ h rfl
    | row k=>exact no h
    | to=>exact no h
    | openP=>exact no h
    | closeP=>exact no h
    | closeB=>exact no h
    | comma=>exact no h
    | bad=>exact no h
    | list =>
     refine o1_2 (thenE_inv (ite_ok h)) fun r1 e1 h=>?_
     refine o1_2 (thenE_inv h) fun y e2 h=>?_
     refine o1_2 (thenE_inv h) fun r2 e3 h=>?_
     refine ok _ h ?_
     rw [sn_cons,want_tok openP_is e1,hT _ _ _ e2,want_tok closeP_is e3]
     exact congrArg (fun q=>ETok.list :: ETok.openP :: q) (app1 _ _ _)
    | pair =>
     refine o1_2 (thenE_inv (ite_ok h)) fun r1 e1 h=>?_
     refine o1_2 (thenE_inv h) fun y e2 h=>?_
     refine o1_2 (thenE_inv h) fun r2 e3 h=>?_
     refine o1_2 (thenE_inv h) fun z e4 h=>?_
     refine o1_2 (thenE_inv h) fun r3 e5 h=>?_
     refine ok _ h ?_
     rw [sn_cons,want_tok openP_is e1,hT _ _ _ e2,want_tok comma_is e3,hT _ _ _ e4,want_tok closeP_is e5]
     exact congrArg (fun q=>ETok.pair :: ETok.openP :: q) (app2 _ _ _ _ _)
    | openB =>
     refine o1_2 (thenE_inv (ite_ok h)) fun y e1 h=>?_
     refine o1_2 (thenE_inv h) fun r1 e2 h=>?_
     refine o1_2 (thenE_inv h) fun z e3 h=>?_
     refine o1_2 (thenE_inv h) fun r2 e4 h=>?_
     refine ok _ h ?_
     rw [sn_cons,hR _ _ _ e1,want_tok to_is e2,hR _ _ _ e3,want_tok closeB_is e4]
     exact congrArg (fun q=>ETok.openB :: q) (app2 _ _ _ _ _)
  ·cases l with
   | nil=>exact absurd (show (eFault n []:Except Nat (Row × List ET)) = .ok x from h) eFault_ne
   | cons y r =>
    obtain ⟨p,t⟩:=y
    have no:(eFault n ((p,t) :: r):Except Nat (Row × List ET)) = .ok x→sn ((p,t) :: r) = tRow x.1 ++ sn x.2:=fun e=>absurd e eFault_ne
    cases t <;> first | exact no h | exact hM _ _ _ _ h
  ·cases l with
   | nil=>rw [← Except.ok.inj (show Except.ok (ε:=Nat) (a,[]) = .ok x from h)]
   | cons y r =>
    obtain ⟨p,t⟩:=y
    have go:thenE (tyIn n f d ((p,t) :: r)) (fun (y:Ty × List ET)=>moreIn n f d (.snoc a y.1) y.2) = .ok x→tRow a ++ sn ((p,t) :: r) = tRow x.1 ++ sn x.2:=fun q=>by
     refine o1_2 (thenE_inv q) fun y e1 q=>?_
     rw [hT _ _ _ e1,← hM _ _ _ _ q]
     exact (List.append_assoc _ _ _).symm
    have ok:(Except.ok (a,(p,t) :: r):Except Nat _) = .ok x→tRow a ++ sn ((p,t) :: r) = tRow x.1 ++ sn x.2:=fun e=>by rw [← Except.ok.inj e]
    cases t with
    | to=>exact ok h
    | closeB=>exact ok (ite_ok h)
    | num=>exact go h
    | bool=>exact go h
    | list=>exact go h
    | pair=>exact go h
    | ty k=>exact go h
    | row k=>exact go h
    | openP=>exact go h
    | closeP=>exact go h
    | openB=>exact go h
    | comma=>exact go h
    | bad=>exact go h
theorem effect_toks {t:Bytes} {e:Effect} (h:effectIn t = .ok e):sn (eTokens t) = tEff e:=by
 unfold effectIn at h
 simp only [] at h
 refine o0_3 (parse_toks t.length (2 * (eTokens t).length + 4)) fun _ hR _=>?_
 cases q1:rowIn t.length (2 * (eTokens t).length + 4) 0 (eTokens t) with
 | error p=>rw [q1] at h; cases h
 | ok x =>
  obtain ⟨a,r⟩:=x
  rw [q1] at h
  simp only [] at h
  cases q2:want t.length isTo r with
  | error p=>rw [q2] at h; cases h
  | ok r1 =>
   rw [q2] at h
   simp only [] at h
   cases q3:rowIn t.length (2 * (eTokens t).length + 4) 0 r1 with
   | error p=>rw [q3] at h; cases h
   | ok y =>
    obtain ⟨b,r2⟩:=y
    rw [q3] at h
    simp only [] at h
    match r2,h,q3 with
    | [],h,q3 =>
     simp only [Except.ok.injEq] at h
     subst h
     rw [hR _ _ _ q1,want_tok to_is q2,hR _ _ _ q3]
     simp [tEff,sn]
    | x :: r3,h,q3=>cases h
def wTok:ETok→Nat
 | .num=>1
 | .bool=>1
 | .list=>1
 | .pair=>1
 | .row _=>1
 | .ty _=>1
 | .openB=>1
 | _=>0
def wToks (l:List ETok):Nat:=(l.map wTok).sum
theorem wToks_append (a b:List ETok):wToks (a ++ b) = wToks a + wToks b:=by simp [wToks]
theorem wToks_cons (a:ETok) (b:List ETok):wToks (a :: b) = wTok a + wToks b:=by simp [wToks]
mutual
theorem w_ty:∀ t:Ty,wToks (tTy t) = t.weight
 | .num=>rfl
 | .bool=>rfl
 | .list t=>by simp only [tTy,Ty.weight,wToks_cons,wToks_append,w_ty t,wTok]; simp [wToks]
 | .pair a b=>by simp only [tTy,Ty.weight,wToks_cons,wToks_append,w_ty a,w_ty b,wTok]; simp [wToks]; omega
 | .fn r s=>by simp only [tTy,Ty.weight,wToks_cons,wToks_append,w_row r,w_row s,wTok]; simp [wToks,wTok]; omega
 | .var _=>rfl
theorem w_row:∀ t:Row,wToks (tRow t) = t.weight
 | .var _=>rfl
 | .snoc r t=>by simp only [tRow,Row.weight,wToks_append,w_ty t,w_row r]
end
theorem w_eff (e:Effect):wToks (tEff e) = e.weight:=by
 simp only [tEff,Effect.weight,wToks_append,wToks_cons,w_row,wTok]; omega
mutual
def nTy (m:Met):Ty→Met × Ty
 | .num=>(m,.num)
 | .bool=>(m,.bool)
 | .list t=>let x:=nTy m t
  (x.1,.list x.2)
 | .pair a b=>let x:=nTy m a
  let y:=nTy x.1 b
  (y.1,.pair x.2 y.2)
 | .fn r s=>let x:=nRow m r
  let y:=nRow x.1 s
  (y.1,.fn x.2 y.2)
 | .var n=>let k:=metNo m.types n
  (⟨m.rows,k.1⟩,.var k.2)
def nRow (m:Met):Row→Met × Row
 | .var n=>let k:=metNo m.rows n
  (⟨k.1,m.types⟩,.var k.2)
 | .snoc r t=>let x:=nRow m r
  let y:=nTy x.1 t
  (y.1,.snoc x.2 y.2)
end
def nTok (m:Met):ETok→Met × ETok
 | .row n=>let k:=metNo m.rows n
  (⟨k.1,m.types⟩,.row k.2)
 | .ty n=>let k:=metNo m.types n
  (⟨m.rows,k.1⟩,.ty k.2)
 | t=>(m,t)
def nToks:Met→List ETok→Met × List ETok
 | m,[]=>(m,[])
 | m,t :: r=>let x:=nTok m t
  let y:=nToks x.1 r
  (y.1,x.2 :: y.2)
theorem nToks_append:∀ (m:Met) (a b:List ETok),nToks m (a ++ b) = ((nToks (nToks m a).1 b).1,(nToks m a).2 ++ (nToks (nToks m a).1 b).2)
 | m,[],b=>rfl
 | m,t :: r,b=>by simp only [List.cons_append,nToks,nToks_append _ r b]
theorem nToks_cons (m:Met) (t:ETok) (r:List ETok):nToks m (t :: r) = ((nToks (nTok m t).1 r).1,(nTok m t).2 :: (nToks (nTok m t).1 r).2):=rfl
mutual
theorem n_ty:∀ (t:Ty) (m:Met),nToks m (tTy t) = ((nTy m t).1,tTy (nTy m t).2)
 | .num,m=>rfl
 | .bool,m=>rfl
 | .list t,m=>by simp only [tTy,nTy,nToks_cons,nToks_append,nTok,n_ty t]; rfl
 | .pair a b,m=>by simp only [tTy,nTy,nToks_cons,nToks_append,nTok,n_ty a,n_ty b]; rfl
 | .fn r s,m=>by simp only [tTy,nTy,nToks_cons,nToks_append,nTok,n_row r,n_row s]; rfl
 | .var n,m=>rfl
theorem n_row:∀ (t:Row) (m:Met),nToks m (tRow t) = ((nRow m t).1,tRow (nRow m t).2)
 | .var n,m=>rfl
 | .snoc r t,m=>by simp only [tRow,nRow,nToks_append,n_row r,n_ty t]
end
def nEff (e:Effect):Effect:=let x:=nRow ⟨[],[]⟩ e.before
 let y:=nRow x.1 e.behind
 ⟨x.2,y.2⟩
theorem n_eff (e:Effect):(nToks ⟨[],[]⟩ (tEff e)).2 = tEff (nEff e):=by
 simp only [tEff,nToks_append,nToks_cons,n_row,nTok,nEff]
def symB (t:ETok):Bytes:=match t with
 | .num=>ascii "num"
 | .bool=>ascii "bool"
 | .list=>ascii "list"
 | .pair=>ascii "pair"
 | .row n=>varText 65 n
 | .ty n=>varText 97 n
 | .to=>ascii "--"
 | .openP=>ascii "("
 | .closeP=>ascii ")"
 | .openB=>ascii "["
 | .closeB=>ascii "]"
 | .comma=>ascii ","
 | .bad=>[]
def opn:ETok→Bool
 | .openP=>true
 | .openB=>true
 | .comma=>true
 | _=>false
def tight:ETok→Bool
 | .openP=>true
 | .closeP=>true
 | .closeB=>true
 | .comma=>true
 | _=>false
def wr:Bool→List ETok→Bytes
 | _,[]=>[]
 | b,t :: r=>(if b = false∧tight t = false then [32] else []) ++ (symB t ++ wr (opn t) r)
def sep (b:Bool):Bytes:=if b = true then [] else [32]
theorem wr_cons (b:Bool) (t:ETok) (r:List ETok):wr b (t :: r) = (if b = false∧tight t = false then [32] else []) ++ (symB t ++ wr (opn t) r):=rfl
theorem sep_eq (b:Bool) {t:ETok} (h:tight t = false):(if b = false∧tight t = false then [32] else []) = sep b:=by cases b <;> simp [h,sep]
mutual
theorem wr_ty:∀ (t:Ty) (b:Bool) (rest:List ETok),wr b (tTy t ++ rest) = sep b ++ (t.text ++ wr false rest)
 | .num,b,rest=>by simp only [tTy,List.cons_append,List.nil_append,wr_cons,sep_eq b (t:=.num) rfl]; rfl
 | .bool,b,rest=>by simp only [tTy,List.cons_append,List.nil_append,wr_cons,sep_eq b (t:=.bool) rfl]; rfl
 | .var n,b,rest=>by simp only [tTy,List.cons_append,List.nil_append,wr_cons,sep_eq b (t:=.ty n) rfl]; rfl
 | .list t,b,rest=>by
  simp only [tTy,List.cons_append,List.append_assoc,wr_cons,List.nil_append,Ty.text,symB,opn,tight,wr_ty t]
  cases b <;> simp [sep,ascii]
 | .pair x y,b,rest=>by
  simp only [tTy,List.cons_append,List.append_assoc,wr_cons,List.nil_append,Ty.text,symB,opn,tight,wr_ty x,wr_ty y]
  cases b <;> simp [sep,ascii]
 | .fn r s,b,rest=>by
  simp only [tTy,List.cons_append,List.append_assoc,wr_cons,List.nil_append,Ty.text,symB,opn,tight,wr_row r,wr_row s]
  cases b <;> simp [sep,ascii]
theorem wr_row:∀ (t:Row) (b:Bool) (rest:List ETok),wr b (tRow t ++ rest) = sep b ++ (t.text ++ wr false rest)
 | .var n,b,rest=>by simp only [tRow,List.cons_append,List.nil_append,wr_cons,sep_eq b (t:=.row n) rfl]; rfl
 | .snoc r t,b,rest=>by
  simp only [tRow,List.append_assoc,wr_row r,wr_ty t,Row.text]
  simp [sep]
end
theorem wr_eff (e:Effect):wr true (tEff e) = e.text:=by
 have h:=wr_row e.before true (.to :: tRow e.behind)
 have h2:=wr_row e.behind false []
 rw [List.append_nil] at h2
 have e1:opn .to = false:=rfl
 simp only [tEff,Effect.text,h,wr_cons,e1,h2]
 simp [sep,symB,tight,ascii,wr]
end Mi
namespace Mi
open Rs
structure FlatS (s:Store):Prop where
 size:s.put.size = s.nodes.size
 put:∀ i,s.put.getD i i = i
theorem FlatS.root {s:Store} (h:FlatS s) (i:Nat):s.root i = i:=by
 unfold Store.root
 simp only [Store.rootIn,h.put i,if_true]
theorem flat_add {s:Store} (h:FlatS s) (d:Nd):FlatS (s.add d).1:=by
 refine ⟨?_,fun i=>?_⟩
 ·simp only [Store.add,Array.size_push,h.size]
 ·simp only [Store.add,Array.getD_eq_getD_getElem?,Array.getElem?_push,h.size]
  split
  ·rename_i e; rw [e]; rfl
  ·have:=h.put i
   rw [Array.getD_eq_getD_getElem?] at this
   exact this
theorem add_no (s:Store) (d:Nd):(s.add d).2 = s.nodes.size:=rfl
theorem add_size (s:Store) (d:Nd):(s.add d).1.nodes.size = s.nodes.size + 1:=by simp only [Store.add,Array.size_push]
mutual
def hT:Ty→Nat
 | .num=>1
 | .bool=>1
 | .list t=>hT t + 1
 | .pair a b=>max (hT a) (hT b) + 1
 | .fn a b=>max (hR a) (hR b) + 1
 | .var _=>1
def hR:Row→Nat
 | .var _=>1
 | .snoc a b=>max (hR a) (hT b) + 1
end
mutual
theorem ht_w:∀ t:Ty,hT t≤t.weight∧1≤hT t
 | .num=>by simp [hT,Ty.weight]
 | .bool=>by simp [hT,Ty.weight]
 | .list t=>by have:=ht_w t; simp only [hT,Ty.weight]; omega
 | .pair a b=>by have:=ht_w a; have:=ht_w b; simp only [hT,Ty.weight]; omega
 | .fn a b=>by have:=hr_w a; have:=hr_w b; simp only [hT,Ty.weight]; omega
 | .var _=>by simp [hT,Ty.weight]
theorem hr_w:∀ t:Row,hR t≤t.weight∧1≤hR t
 | .var _=>by simp [hR,Row.weight]
 | .snoc a b=>by have:=hr_w a; have:=ht_w b; simp only [hR,Row.weight]; omega
end
def ownOf:Nd→Nat
 | .snoc _ _=>0
 | _=>1
def wfold (s:Store) (f:Nat) (y:Array (Option Nat) × Nat) (j:Nat):Array (Option Nat) × Nat:=((weigh s f y.1 j).1,y.2 + (weigh s f y.1 j).2)
theorem flat0:FlatS store0:=⟨rfl,fun i=>by simp [store0]⟩
end Mi
namespace Mi
open Rs
def idxZ:List Int→Int→Nat
 | [],_=>0
 | x :: l,z=>if x = z then 0 else idxZ l z + 1
def addZ (l:List Int) (z:Int):List Int:=if z ∈ l then l else l ++ [z]
def putO (o:Sy→List Int) (k:Sy) (z:Int):Sy→List Int:=fun j=>if j = k then addZ (o k) z else o j
def nmP:(Sy→List Int)→List Tk→List Tk
 | _,[]=>[]
 | o,x :: r=>(x.1,((idxZ (o x.1) x.2.1:Nat):Int),x.2.2) :: nmP (putO o x.1 x.2.1) r
def digs (n:Nat):List Int:=(Nat.toDigits 10 n).map fun (c:Char)=>(c.toNat:Int)
def tokB (k:Sy) (z:Int):List Int :=
 if k = .row∨k = .ty then (first k + z % 26) :: (if z < 26 then [] else digs (z / 26).toNat)
 else if k = .bad then [66,65,68] else symBytes k
def opnS (k:Sy):Bool:=decide (k = .op) || (decide (k = .ob) || decide (k = .cm))
def tightS (k:Sy):Bool:=decide (k = .op) || (decide (k = .cp) || (decide (k = .cb) || decide (k = .cm)))
def wrP:Bool→List Tk→List Int
 | _,[]=>[]
 | b,x :: r=>(if b = false∧tightS x.1 = false then [32] else []) ++ (tokB x.1 x.2.1 ++ wrP (opnS x.1) r)
def o0:Sy→List Int:=fun _=>[]
def okK (k:Sy):Bool:=match k with
 | .item=>false
 | .items=>false
 | .bad=>false
 | _=>true
theorem sn_etk (ts:List Tk):sn (ts.map etk) = ts.map fun x=>et x.1 x.2.1:=by
 simp [sn,etk]
theorem idx_none:∀ {l:List Int} {z:Int},z ∉ l→idxZ l z = l.length
 | [],_,_=>rfl
 | x :: l,z,h=>by
  simp only [List.mem_cons,not_or] at h
  simp only [idxZ]
  rw [if_neg (fun e=>h.1 e.symm),idx_none h.2,List.length_cons]
theorem met_idx:∀ {l:List Int} {z:Int},(∀ y ∈ l,0≤y)→0≤z→metNo (l.map Int.toNat) z.toNat = ((addZ l z).map Int.toNat,idxZ l z):=by
 intro l z hl hz
 have key:∀ l:List Int,(∀ y ∈ l,0≤y)→(l.map Int.toNat).findIdx? (fun j=>j == z.toNat) = if z ∈ l then some (idxZ l z) else none:=by
  intro l
  induction l with
  | nil=>intro _; simp
  | cons x l ih =>
   intro h
   have hx:0≤x:=h x (by simp)
   rw [List.map_cons,List.findIdx?_cons,ih fun y hy=>h y (by simp [hy])]
   by_cases e:x = z
   ·subst e
    simp [idxZ]
   ·have e1:(x.toNat == z.toNat) = false:=by
     rw [beq_eq_false_iff_ne]
     exact fun q=>e (toNat_inj hx hz q)
    have e2:¬ z = x:=fun q=>e q.symm
    rw [e1]
    simp only [Bool.false_eq_true,if_false,idxZ,if_neg e,List.mem_cons,e2,false_or]
    split <;> simp
 unfold metNo addZ
 rw [key l hl]
 by_cases h:z ∈ l
 ·rw [if_pos h,if_pos h]
 ·rw [if_neg h,if_neg h,idx_none h]
  simp
structure OM (o:Sy→List Int) (m:Met):Prop where
 rows:m.rows = (o .row).map Int.toNat
 types:m.types = (o .ty).map Int.toNat
 pr:∀ y ∈ o .row,0≤y
 pt:∀ y ∈ o .ty,0≤y
theorem add_pos {l:List Int} {z:Int} (h:∀ y ∈ l,0≤y) (hz:0≤z):∀ y ∈ addZ l z,0≤y:=by
 intro y hy
 unfold addZ at hy
 split at hy
 ·exact h y hy
 ·rcases List.mem_append.mp hy with q | q
  ·exact h y q
  ·simp at q
   rw [q]
   exact hz
theorem et_row (z:Int):et .row z = .row z.toNat:=rfl
theorem et_ty (z:Int):et .ty z = .ty z.toNat:=rfl
theorem nm_et:∀ (ts:List Tk) (o:Sy→List Int) (m:Met),(∀ x ∈ ts,okK x.1 = true∧0≤x.2.1)→OM o m→(nToks m (ts.map fun x=>et x.1 x.2.1)).2 = (nmP o ts).map fun x=>et x.1 x.2.1
 | [],_,_,_,_=>rfl
 | x :: ts,o,m,h,hm=>by
  obtain ⟨k,z,p⟩:=x
  have hk:=(h (k,z,p) (by simp)).1
  have hz:0≤z:=(h (k,z,p) (by simp)).2
  have hr:∀ x ∈ ts,okK x.1 = true∧0≤x.2.1:=fun y hy=>h y (by simp [hy])
  by_cases h1:k = .row
  ·subst h1
   have e:=met_idx hm.pr hz
   have hm2:OM (putO o .row z) ⟨(addZ (o .row) z).map Int.toNat,m.types⟩:=⟨rfl,hm.types,add_pos hm.pr hz,hm.pt⟩
   have ih:=nm_et ts _ _ hr hm2
   simp only [List.map_cons,et_row,nToks,nTok,hm.rows,e,nmP,ih,Int.toNat_natCast]
  ·by_cases h2:k = .ty
   ·subst h2
    have e:=met_idx hm.pt hz
    have hm2:OM (putO o .ty z) ⟨m.rows,(addZ (o .ty) z).map Int.toNat⟩:=⟨hm.rows,rfl,hm.pr,add_pos hm.pt hz⟩
    have ih:=nm_et ts _ _ hr hm2
    simp only [List.map_cons,et_ty,nToks,nTok,hm.types,e,nmP,ih,Int.toNat_natCast]
   ·have n1:¬ Sy.row = k:=fun q=>h1 q.symm
    have n2:¬ Sy.ty = k:=fun q=>h2 q.symm
    have r1:putO o k z .row = o .row:=if_neg n1
    have r2:putO o k z .ty = o .ty:=if_neg n2
    have hm2:OM (putO o k z) m:=⟨by rw [r1]; exact hm.rows,by rw [r2]; exact hm.types,by rw [r1]; exact hm.pr,by rw [r2]; exact hm.pt⟩
    have ih:=nm_et ts _ _ hr hm2
    have e1:nTok m (et k z) = (m,et k z):=by cases k <;> first | rfl | exact absurd rfl h1 | exact absurd rfl h2
    have e2:et k ((idxZ (o k) z:Nat):Int) = et k z:=by cases k <;> first | rfl | exact absurd rfl h1 | exact absurd rfl h2
    simp only [List.map_cons,nToks,e1,nmP,ih,e2]
def toI (b:Bytes):List Int:=b.map fun (c:UInt8)=>(c.toNat:Int)
theorem toI_append (a b:Bytes):toI (a ++ b) = toI a ++ toI b:=by simp [toI]
theorem digs_char (n:Nat):toI (decimal n) = digs n:=by
 have h:∀ c ∈ Nat.toDigits 10 n,c.toNat < 256:=by
  intro c hc
  have:=Nat.isDigit_of_mem_toDigits (by decide) (by decide) hc
  simp only [Char.isDigit,Bool.and_eq_true,decide_eq_true_eq] at this
  have h2:c.val≤57:=this.2
  have h3:c.val.toNat≤57:=h2
  show c.val.toNat < 256
  omega
 unfold toI decimal digs
 rw [List.map_map]
 apply List.map_congr_left
 intro c hc
 show ((UInt8.ofNat c.toNat).toNat:Int) = _
 rw [UInt8.toNat_ofNat_of_lt' (h c hc)]
theorem var_bytes (f:Nat) (hf:f≤97) (z:Int) (hz:0≤z):toI (varText f z.toNat) = ((f:Int) + z % 26) :: (if z < 26 then [] else digs (z / 26).toNat):=by
 (refine o1_1 (Int.eq_ofNat_of_zero_le hz) fun n y2_1=>?_; subst y2_1)
 have e1:(UInt8.ofNat (f + n % 26)).toNat = f + n % 26:=UInt8.toNat_ofNat_of_lt' (Nat.lt_of_lt_of_le (Nat.add_lt_add_of_le_of_lt hf (Nat.mod_lt n (by decide))) (by decide))
 show ((UInt8.ofNat (f + n % 26)).toNat:Int) :: toI (if n < 26 then [] else decimal (n / 26)) = ((f + n % 26:Nat):Int) :: (if (n:Int) < 26 then [] else digs (n / 26))
 rw [e1]
 by_cases h:n < 26
 ·rw [if_pos h,if_pos (show (n:Int) < 26 from Int.ofNat_lt.mpr h)]
  rfl
 ·rw [if_neg h,if_neg (show ¬ (n:Int) < 26 from fun q=>h (Int.ofNat_lt.mp q)),digs_char]
theorem sym_tokB {k:Sy} {z:Int} (hk:okK k = true) (hz:0≤z):toI (symB (et k z)) = tokB k z:=by
 by_cases h1:k = .row
 ·subst h1
  exact var_bytes 65 (by decide) z hz
 ·by_cases h2:k = .ty
  ·subst h2
   exact var_bytes 97 (by decide) z hz
  ·unfold tokB
   rw [if_neg (fun q=>q.elim h1 h2)]
   cases k <;> first | exact absurd rfl h1 | exact absurd rfl h2 | exact absurd hk Bool.false_ne_true | rfl
theorem wr_et:∀ (ts:List Tk) (b:Bool),(∀ x ∈ ts,okK x.1 = true∧0≤x.2.1)→toI (wr b (ts.map fun x=>et x.1 x.2.1)) = wrP b ts
 | [],_,_=>rfl
 | x :: ts,b,h=>by
  obtain ⟨k,z,p⟩:=x
  have hk:=h (k,z,p) (by simp)
  have ih:=wr_et ts (opnS k) fun y hy=>h y (by simp [hy])
  have e1:opn (et k z) = opnS k:=by
   have:=hk.1
   cases k <;> first | rfl | exact absurd this Bool.false_ne_true
  have e2:tight (et k z) = tightS k:=by
   have:=hk.1
   cases k <;> first | rfl | exact absurd this Bool.false_ne_true
  rw [List.map_cons,wr_cons,toI_append,toI_append,sym_tokB hk.1 hk.2,e1,e2,ih]
  rw [apply_ite toI]
  rfl
theorem nmP_ok:∀ (ts:List Tk) (o:Sy→List Int),(∀ x ∈ ts,okK x.1 = true)→∀ x ∈ nmP o ts,okK x.1 = true∧0≤x.2.1
 | [],_,_,x,h=>by simp [nmP] at h
 | y :: ts,o,hk,x,h=>by
  simp only [nmP,List.mem_cons] at h
  rcases h with rfl | h
  ·exact ⟨hk y (by simp),by simp⟩
  ·exact nmP_ok ts _ (fun z hz=>hk z (by simp [hz])) x h
def gtok:ETok→Bool
 | .bad=>false
 | _=>true
mutual
theorem gt_ty:∀ t:Ty,(tTy t).all gtok = true
 | .num=>rfl
 | .bool=>rfl
 | .list t=>by simp [tTy,gtok,gt_ty t]
 | .pair a b=>by simp [tTy,gtok,gt_ty a,gt_ty b]
 | .fn r s=>by simp [tTy,gtok,gt_row r,gt_row s]
 | .var _=>rfl
theorem gt_row:∀ t:Row,(tRow t).all gtok = true
 | .var _=>rfl
 | .snoc r t=>by simp [tRow,gt_row r,gt_ty t]
end
theorem kind_var {l:List Int} (hk:kindOf l = .row∨kindOf l = .ty):isVar l = true∧kindOf l = if isCap (l.headD 0) = true then .row else .ty:=by
 revert hk
 unfold kindOf
 cases e:fixed.find? (fun k=>decide (l = symBytes k)) with
 | some k =>
  have hm:=List.mem_of_find?_eq_some e
  intro hk
  have no:∀ j,k = j→j ∈ fixed:=fun j e=>e ▸ hm
  rcases hk with h | h
  ·exact absurd (no .row h) (by decide)
  ·exact absurd (no .ty h) (by decide)
 | none =>
  by_cases hv:isVar l = true
  ·exact fun _=>⟨hv,if_pos hv⟩
  ·intro hk
   rcases hk with h | h <;> cases ((if_neg hv).symm.trans h)
theorem numOf_pos {l:List Int} (h:InB l):0≤numOf (kindOf l) l:=by
 unfold numOf
 by_cases hk:kindOf l = .row∨kindOf l = .ty
 ·rw [if_pos hk]
  refine o0_2 (kind_var hk) fun hv e=>?_
  rw [e]
  cases l with
  | nil=>cases hv
  | cons c d =>
   rw [isVar_cons,Bool.and_eq_true] at hv
   refine o0_4 (capB h.cons.1) fun a1 a2 a3 a4=>?_
   rw [Int.add_sub_assoc]
   refine Int.add_nonneg (Int.mul_nonneg (tail_pos h.cons.2 hv.2) (by decide)) (Int.sub_nonneg_of_le ?_)
   show first (if isCap c = true then .row else .ty)≤c
   by_cases q:isCap c = true
   ·rw [if_pos q]
    exact a3 q
   ·rw [if_neg q]
    exact a4 ((Bool.or_eq_true _ _ ▸ hv.1).resolve_left q)
 ·rw [if_neg hk]
  exact Int.le_refl 0
theorem toksF_pos:∀ (f a:Nat) (l:List Int),InB l→∀ x ∈ toksF f a l,0≤x.2.1
 | 0,_,_,_,x,h=>by simp [toksF] at h
 | _ + 1,_,[],_,x,h=>by simp [toksF] at h
 | f + 1,a,c :: r,hB,x,h=>by
  simp only [toksF,List.mem_append] at h
  rcases h with h | h
  ·split at h
   ·simp at h
   ·simp only [List.mem_singleton] at h
    subst h
    exact numOf_pos fun z hz=>hB z (List.mem_of_mem_take hz)
  ·exact toksF_pos f _ _ (hB.drop _) x h
theorem kd_ok {k:Sy} {z:Int} (h:goodK k = true) (hg:gtok (et k z) = true):okK k = true:=by
 cases k <;> first | rfl | exact absurd h Bool.false_ne_true | exact absurd hg Bool.false_ne_true
end Mi
namespace Mi
open Rs
def faults:Nat→List (List Int)→Option (List Int)
 | _,[]=>none
 | i,ns :: r=>match fault ns with
  | some p=>some [-1,(i:Int),(p:Int)]
  | none=>faults (i + 1) r
def refusals (nss:List (List Int)):Option (List Int):=if (nss.map fun ns=>decide (1024 < ns.length)).any id = true then some [-6] else faults 1 nss
theorem eff_of {l:List Int} (h:InB l) (hf:fault l = none):∃ x,effectIn (l.map bt) = .ok x∧(toks 0 l).map (fun y=>et y.1 y.2.1) = tEff x∧∀ y ∈ toks 0 l,okK y.1 = true∧0≤y.2.1:=by
 have e:=effect_fault h
 cases q:effectIn (l.map bt) with
 | error p=>rw [q] at e; simp only [] at e; rw [e] at hf; cases hf
 | ok x =>
  have ht:=effect_toks q
  rw [tokens_eq h,sn_etk] at ht
  have hall:∀ y ∈ toks 0 l,gtok (et y.1 y.2.1) = true:=fun y hy=>by
   have h1:(tEff x).all gtok = true:=by simp [tEff,gt_row,gtok]
   rw [← ht,List.all_map,List.all_eq_true] at h1
   exact h1 y hy
  exact ⟨x,rfl,ht,fun y hy=>⟨kd_ok (toks_good 0 l y hy) (hall y hy),toksF_pos _ _ _ h y hy⟩⟩
theorem no_eff {l:List Int} {p:Nat} (h:InB l) (hf:fault l = some p):effectIn (l.map bt) = .error p:=by
 have e:=effect_fault h
 cases q:effectIn (l.map bt) with
 | error p'=>rw [q] at e; simp only [] at e; rw [e] at hf; cases hf; rfl
 | ok x=>rw [q] at e; simp only [] at e; rw [e] at hf; cases hf
end Mi
namespace Mi
open Rs
inductive Lead (p:Array Nat):Nat→Nat→Nat→Prop where
 | here {r:Nat}:p.getD r r = r→Lead p r r 0
 | step {i j r k:Nat}:p.getD i i = j→j≠i→Lead p j r k→Lead p i r (k + 1)
theorem Lead.root {p:Array Nat} {i r k:Nat} (h:Lead p i r k):p.getD r r = r:=by
 induction h with
 | here h=>exact h
 | step _ _ _ ih=>exact ih
theorem Lead.uniq {p:Array Nat} {i r k:Nat} (h:Lead p i r k):∀ {r' k':Nat},Lead p i r' k'→r = r'∧k = k':=by
 induction h with
 | here h =>
  intro r' k' h'
  cases h' with
  | here _=>exact ⟨rfl,rfl⟩
  | step h1 h2 _=>exact absurd (h1.symm.trans h) h2
 | step h1 h2 _ ih =>
  intro r' k' h'
  cases h' with
  | here h=>exact absurd (h1.symm.trans h) h2
  | step h1' _ h3' =>
   rw [h1] at h1'
   subst h1'
   refine o0_2 (ih h3') fun e1 e2=>?_
   exact ⟨e1,by rw [e2]⟩
theorem rootIn_lead {s:Store}:∀ {k f i r:Nat},Lead s.put i r k→k < f→s.rootIn f i = r
 | _,0,_,_,_,hf=>by omega
 | _,f + 1,i,r,h,hf=>by
  unfold Store.rootIn
  cases h with
  | here h=>simp only [h,if_true]
  | step h1 h2 h3 =>
   simp only [h1]
   rw [if_neg h2]
   exact rootIn_lead h3 (by omega)
def nrs (s:Store):Nat:=(List.range s.nodes.size).countP fun i=>s.put.getD i i == i
structure WfS (s:Store) (B:Nat):Prop where
 size:s.put.size = s.nodes.size
 inb:∀ i,i < s.nodes.size→s.put.getD i i < s.nodes.size
 lead:∀ i,i < s.nodes.size→∃ r k,Lead s.put i r k∧k≤B∧r < s.nodes.size
 cnt:B + nrs s = s.nodes.size
theorem WfS.root {s:Store} {B:Nat} (h:WfS s B) {i:Nat} (hi:i < s.nodes.size):∃ k,Lead s.put i (s.root i) k∧s.root i < s.nodes.size:=by
 refine o2_3 (h.lead i hi) fun r k h1 h2 h3=>?_
 have hB:B≤s.nodes.size:=by have:=h.cnt; omega
 have e:s.root i = r:=rootIn_lead h1 (by omega)
 exact ⟨k,by rw [e]; exact h1,by rw [e]; exact h3⟩
theorem WfS.root_lt {s:Store} {B:Nat} (h:WfS s B) {i:Nat} (hi:i < s.nodes.size):s.root i < s.nodes.size:=(h.root hi).elim fun _ q=>q.2
theorem WfS.root_of {s:Store} {B:Nat} (h:WfS s B) {i r k:Nat} (hi:i < s.nodes.size) (hl:Lead s.put i r k):s.root i = r:=by
 refine o1_2 (h.root hi) fun k' h1 _=>?_
 exact (h1.uniq hl).1
theorem WfS.root_root {s:Store} {B:Nat} (h:WfS s B) {i:Nat} (hi:i < s.nodes.size):s.root (s.root i) = s.root i:=by
 refine o1_2 (h.root hi) fun k h1 h2=>?_
 exact h.root_of h2 (.here h1.root)
theorem WfS.self {s:Store} {B:Nat} (h:WfS s B) {i:Nat} (hi:i < s.nodes.size):s.put.getD (s.root i) (s.root i) = s.root i:=by
 refine o1_2 (h.root hi) fun k h1 _=>?_
 exact h1.root
theorem bind_put {s:Store} {i j k:Nat} (hi:i < s.put.size):(s.bind i j).put.getD k k = if k = i then j else s.put.getD k k:=by
 unfold Store.bind
 simp only [Array.getD_eq_getD_getElem?,Array.getElem?_setIfInBounds]
 by_cases e:i = k
 ·subst e; simp [hi]
 ·rw [if_neg e,if_neg (fun q=>e q.symm)]
theorem lead_bind {s:Store} {i j:Nat} (hi:i < s.put.size) (ri:s.put.getD i i = i) (rj:s.put.getD j j = j) (hij:i≠j) {a r k:Nat} (h:Lead s.put a r k) :
  if r = i then Lead (s.bind i j).put a j (k + 1) else Lead (s.bind i j).put a r k:=by
 have hj:Lead (s.bind i j).put j j 0:=.here (by rw [bind_put hi,if_neg (fun q=>hij q.symm)]; exact rj)
 induction h with
 | @here r h =>
  by_cases e:r = i
  ·subst e
   rw [if_pos rfl]
   exact .step (by rw [bind_put hi,if_pos rfl]) (fun q=>hij q.symm) hj
  ·rw [if_neg e]
   exact .here (by rw [bind_put hi,if_neg e]; exact h)
 | @step a b r k h1 h2 h3 ih =>
  have ha:a≠i:=fun q=>by subst q; rw [ri] at h1; exact h2 h1.symm
  have hs:(s.bind i j).put.getD a a = b:=by rw [bind_put hi,if_neg ha]; exact h1
  by_cases e:r = i
  ·rw [if_pos e] at ih ⊢
   exact .step hs h2 ih
  ·rw [if_neg e] at ih ⊢
   exact .step hs h2 ih
theorem countP_one {p q:Nat→Bool} {i:Nat}:∀ {l:List Nat},l.Nodup→i ∈ l→(∀ k,k≠i→p k = q k)→p i = false→q i = true→l.countP q = l.countP p + 1
 | [],_,h,_,_,_=>by simp at h
 | a :: l,hn,h,he,hp,hq=>by
  refine o0_2 (List.nodup_cons.mp hn) fun h1 h2=>?_
  by_cases e:a = i
  ·subst e
   rw [List.countP_cons_of_pos hq,List.countP_cons_of_neg (by rw [hp]; simp)]
   have:l.countP q = l.countP p:=List.countP_congr fun k hk=>by rw [he k (fun z=>h1 (z ▸ hk))]
   omega
  ·have hi:i ∈ l:=(List.mem_cons.mp h).resolve_left fun z=>e z.symm
   have ih:=countP_one h2 hi he hp hq
   simp only [List.countP_cons,he a e,ih]
   omega
theorem nrs_bind {s:Store} {i j:Nat} (hsz:s.put.size = s.nodes.size) (hi:i < s.nodes.size) (ri:s.put.getD i i = i) (hij:i≠j):nrs s = nrs (s.bind i j) + 1:=by
 unfold nrs
 show (List.range s.nodes.size).countP _ = (List.range s.nodes.size).countP _ + 1
 refine countP_one (i:=i) List.nodup_range (List.mem_range.mpr hi) (fun k hk=>?_) ?_ ?_
 ·rw [bind_put (by rw [hsz]; exact hi),if_neg hk]
 ·rw [bind_put (by rw [hsz]; exact hi),if_pos rfl]
  simpa using fun q=>hij q.symm
 ·rw [ri]; simp
theorem WfS.bind {s:Store} {B i j:Nat} (h:WfS s B) (hi:i < s.nodes.size) (hj:j < s.nodes.size) (ri:s.put.getD i i = i) (rj:s.put.getD j j = j) (hij:i≠j) :
  WfS (s.bind i j) (B + 1)∧(∀ a,a < s.nodes.size→(s.bind i j).root a = if s.root a = i then j else s.root a):=by
 have hip:i < s.put.size:=by rw [h.size]; exact hi
 have hn:(s.bind i j).nodes = s.nodes:=rfl
 have W:WfS (s.bind i j) (B + 1):=by
  refine ⟨?_,fun a ha=>?_,fun a ha=>?_,?_⟩
  ·show (s.put.setIfInBounds i j).size = _
   rw [Array.size_setIfInBounds]
   exact h.size
  ·rw [bind_put hip]
   split
   ·exact hj
   ·exact h.inb a ha
  ·refine o2_3 (h.lead a ha) fun r k h1 h2 h3=>?_
   have q:=lead_bind hip ri rj hij h1
   by_cases e:r = i
   ·rw [if_pos e] at q
    exact ⟨j,k + 1,q,by omega,hj⟩
   ·rw [if_neg e] at q
    exact ⟨r,k,q,by omega,h3⟩
  ·have:=nrs_bind h.size hi ri hij
   have:=h.cnt
   show B + 1 + nrs (s.bind i j) = s.nodes.size
   omega
 refine ⟨W,fun a ha=>?_⟩
 refine o1_2 (h.root ha) fun k h1 _=>?_
 have q:=lead_bind hip ri rj hij h1
 by_cases e:s.root a = i
 ·rw [if_pos e] at q ⊢
  exact W.root_of ha q
 ·rw [if_neg e] at q ⊢
  exact W.root_of ha q
end Mi
namespace Mi
open Rs
inductive Tm where
 | lf (c:Nat)
 | cs (row:Bool) (n:Nat)
 | v (row:Bool) (n:Nat)
 | nd (c:Nat) (a b:Tm)
 deriving DecidableEq
def Nok (τ:Nat→Tm) (i:Nat):Nd→Prop
 | .var=>True
 | .rigid b n=>τ i = .cs b n
 | .num=>τ i = .lf 0
 | .bool=>τ i = .lf 1
 | .list a=>τ i = .nd 0 (τ a) (.lf 2)
 | .pair a b=>τ i = .nd 1 (τ a) (τ b)
 | .fn a b=>τ i = .nd 2 (τ a) (τ b)
 | .snoc a b=>τ i = .nd 3 (τ a) (τ b)
def ndAt (s:Store) (i:Nat):Nd:=s.nodes.getD i .var
theorem at_nd (s:Store) (i:Nat):s.at_ i = ndAt s (s.root i):=rfl
structure Mdl (s:Store) (τ:Nat→Tm):Prop where
 ok:∀ i,i < s.nodes.size→Nok τ i (ndAt s i)
 put:∀ i,i < s.nodes.size→τ i = τ (s.put.getD i i)
theorem Mdl.lead {s:Store} {B:Nat} {τ:Nat→Tm} (W:WfS s B) (h:Mdl s τ) {i r k:Nat} (hl:Lead s.put i r k) (hi:i < s.nodes.size):τ i = τ r:=by
 induction hl with
 | here _=>rfl
 | @step i j r k h1 _ _ ih =>
  have hj:j < s.nodes.size:=by rw [← h1]; exact W.inb i hi
  rw [h.put i hi,h1]
  exact ih hj
theorem Mdl.root {s:Store} {B:Nat} {τ:Nat→Tm} (W:WfS s B) (h:Mdl s τ) {i:Nat} (hi:i < s.nodes.size):τ i = τ (s.root i):=by
 refine o1_2 (W.root hi) fun k h1 _=>?_
 exact h.lead W h1 hi
theorem mdl_bind {s:Store} {B i j:Nat} {τ:Nat→Tm} (W:WfS s B) (hi:i < s.nodes.size) (ri:s.put.getD i i = i):Mdl (s.bind i j) τ↔Mdl s τ∧τ i = τ j:=by
 have hip:i < s.put.size:=by rw [W.size]; exact hi
 constructor
 ·intro h
  refine ⟨⟨h.ok,fun a ha=>?_⟩,?_⟩
  ·by_cases e:a = i
   ·subst e; rw [ri]
   ·have:=h.put a ha
    rw [bind_put hip,if_neg e] at this
    exact this
  ·have:=h.put i hi
   rw [bind_put hip,if_pos rfl] at this
   exact this
 ·(intro oi2; refine o0_2 oi2 fun h e=>?_; try clear oi2)
  refine ⟨h.ok,fun a ha=>?_⟩
  rw [bind_put hip]
  split
  ·rename_i q
   subst q
   exact e
  ·exact h.put a ha
def tg:Nd→Nat
 | .num=>0
 | .bool=>1
 | .list _=>2
 | .pair _ _=>3
 | .fn _ _=>4
 | .snoc _ _=>5
 | .rigid _ _=>6
 | .var=>7
def nb:Nd→Bool
 | .rigid b _=>b
 | _=>false
def n1:Nd→Nat
 | .list a=>a
 | .pair a _=>a
 | .fn a _=>a
 | .snoc a _=>a
 | .rigid _ a=>a
 | _=>0
def n2:Nd→Nat
 | .pair _ a=>a
 | .fn _ a=>a
 | .snoc _ a=>a
 | _=>0
def rep (b:Bool) (a c:Nat):Nat→Nd
 | 0=>.num
 | 1=>.bool
 | 2=>.list a
 | 3=>.pair a c
 | 4=>.fn a c
 | 5=>.snoc a c
 | 6=>.rigid b a
 | _=>.var
theorem rep_eq (x:Nd):x = rep (nb x) (n1 x) (n2 x) (tg x):=by cases x <;> rfl
theorem tg_lt (x:Nd):tg x < 8:=by cases x <;> exact of_decide_eq_true rfl
theorem al_off (b b':Bool) (a c a' c':Nat):∀ t u:Fin 8,t≠u→(alike (rep b a c t.val) (rep b' a' c' u.val)).isNone = true:=of_decide_eq_true rfl
theorem al_tg {x y:Nd} {k:List (Nat × Nat)} (h:alike x y = some k):tg x = tg y :=
 Decidable.byContradiction fun ne=>by
  have q:=al_off (nb x) (nb y) (n1 x) (n2 x) (n1 y) (n2 y) ⟨tg x,tg_lt x⟩ ⟨tg y,tg_lt y⟩ fun z=>ne (congrArg Fin.val z)
  rw [← rep_eq,← rep_eq,h] at q
  exact Bool.false_ne_true q
def AlI (y:Nd) (k:List (Nat × Nat)):Nd→Prop
 | .num=>y = .num∧k = []
 | .bool=>y = .bool∧k = []
 | .rigid b n=>y = .rigid b n∧k = []
 | .list a=>∃ c,y = .list c∧k = [(a,c)]
 | .pair a b=>∃ c d,y = .pair c d∧k = [(a,c),(b,d)]
 | .fn a b=>∃ c d,y = .fn c d∧k = [(a,c),(b,d)]
 | .snoc a b=>∃ c d,y = .snoc c d∧k = [(a,c),(b,d)]
 | .var=>False
theorem al_inv {x y:Nd} {k:List (Nat × Nat)} (h:alike x y = some k):AlI y k x:=by
 have e:=rep_eq y
 rw [← al_tg h] at e
 rw [e] at h ⊢
 generalize nb y = b at h
 generalize n1 y = a at h
 generalize n2 y = c at h
 clear e
 cases x with
 | num=>exact ⟨rfl,(Option.some.inj h).symm⟩
 | bool=>exact ⟨rfl,(Option.some.inj h).symm⟩
 | list=>exact ⟨_,rfl,(Option.some.inj h).symm⟩
 | pair=>exact ⟨_,_,rfl,(Option.some.inj h).symm⟩
 | fn=>exact ⟨_,_,rfl,(Option.some.inj h).symm⟩
 | snoc=>exact ⟨_,_,rfl,(Option.some.inj h).symm⟩
 | rigid b' n =>
  have h:(if b' = b∧n = a then some [] else none) = some k:=h
  by_cases q:b' = b∧n = a
  ·rw [if_pos q] at h
   exact ⟨by rw [q.1,q.2]; rfl,(Option.some.inj h).symm⟩
  ·rw [if_neg q] at h
   exact absurd h.symm (Option.some_ne_none _)
 | var=>exact Option.some_ne_none _ h.symm
inductive Al:Nd→Nd→List (Nat × Nat)→Prop where
 | rigid (b:Bool) (n:Nat):Al (.rigid b n) (.rigid b n) []
 | num:Al .num .num []
 | bool:Al .bool .bool []
 | list (a b:Nat):Al (.list a) (.list b) [(a,b)]
 | pair (a b c d:Nat):Al (.pair a b) (.pair c d) [(a,c),(b,d)]
 | fn (a b c d:Nat):Al (.fn a b) (.fn c d) [(a,c),(b,d)]
 | snoc (a b c d:Nat):Al (.snoc a b) (.snoc c d) [(a,c),(b,d)]
theorem al_of {x y:Nd} {k:List (Nat × Nat)} (h:alike x y = some k):Al x y k:=by
 have h:=al_inv h
 cases x with
 | num=>(refine o0_2 h fun y4_0 y4_1=>?_; try clear h; subst y4_0; subst y4_1); exact .num
 | bool=>(refine o0_2 h fun y5_0 y5_1=>?_; try clear h; subst y5_0; subst y5_1); exact .bool
 | rigid=>(refine o0_2 h fun y6_0 y6_1=>?_; try clear h; subst y6_0; subst y6_1); exact .rigid _ _
 | list=>(refine o1_2 h fun _ y7_1 y7_2=>?_; try clear h; subst y7_1; subst y7_2); exact .list _ _
 | pair=>(refine o2_2 h fun _ _ y8_2 y8_3=>?_; try clear h; subst y8_2; subst y8_3); exact .pair _ _ _ _
 | fn=>(refine o2_2 h fun _ _ y9_2 y9_3=>?_; try clear h; subst y9_2; subst y9_3); exact .fn _ _ _ _
 | snoc=>(refine o2_2 h fun _ _ y10_2 y10_3=>?_; try clear h; subst y10_2; subst y10_3); exact .snoc _ _ _ _
 | var=>exact h.elim
def Rel (R:Nat→Nat→Prop) (k:List (Nat × Nat)):Prop:=∀ p ∈ k,R p.1 p.2
theorem rel1 {R:Nat→Nat→Prop} {a:Nat × Nat} (h:Rel R [a]):R a.1 a.2:=h a List.mem_cons_self
theorem rel2 {R:Nat→Nat→Prop} {a b:Nat × Nat} (h:Rel R [a,b]):R a.1 a.2∧R b.1 b.2:=⟨h a List.mem_cons_self,h b (List.mem_cons_of_mem _ List.mem_cons_self)⟩
theorem rel_nil {R:Nat→Nat→Prop}:Rel R []:=fun p hp=>nomatch hp
theorem rel_one {R:Nat→Nat→Prop} {a b:Nat} (h:R a b):Rel R [(a,b)]:=fun p hp=>by
 rw [List.mem_singleton.mp hp]
 exact h
theorem rel_two {R:Nat→Nat→Prop} {a b c d:Nat} (h:R a b) (g:R c d):Rel R [(a,b),(c,d)]:=fun p hp=>by
 rcases List.mem_cons.mp hp with rfl | hp
 ·exact h
 ·exact rel_one g p hp
def tmN (τ:Nat→Tm):Nd→Tm
 | .var=>.v false 0
 | .rigid b n=>.cs b n
 | .num=>.lf 0
 | .bool=>.lf 1
 | .list a=>.nd 0 (τ a) (.lf 2)
 | .pair a b=>.nd 1 (τ a) (τ b)
 | .fn a b=>.nd 2 (τ a) (τ b)
 | .snoc a b=>.nd 3 (τ a) (τ b)
def tgT:Tm→Nat
 | .lf c=>c
 | .nd c _ _=>c + 2
 | .cs _ _=>6
 | .v _ _=>7
theorem tgT_tm (τ:Nat→Tm) (x:Nd):tgT (tmN τ x) = tg x:=by cases x <;> rfl
theorem nok_tm {τ:Nat→Tm} {i:Nat} {x:Nd} (h:Nok τ i x) (v:Rs.isVar x = false):τ i = tmN τ x:=by
 cases x <;> first | exact h | exact absurd v.symm Bool.false_ne_true
theorem nd_iff {τ:Nat→Tm} {c a b a' b':Nat}:Tm.nd c (τ a) (τ b) = Tm.nd c (τ a') (τ b')↔Rel (fun a b=>τ a = τ b) [(a,a'),(b,b')] :=
 ⟨fun e=>rel_two (Tm.nd.inj e).2.1 (Tm.nd.inj e).2.2,fun r=>by rw [(rel2 r).1,(rel2 r).2]⟩
theorem alike_mdl {τ:Nat→Tm} {i j:Nat} {x y:Nd} (hx:Nok τ i x) (hy:Nok τ j y) (vx:Rs.isVar x = false) (vy:Rs.isVar y = false) :
  match alike x y with
  | none=>τ i≠τ j
  | some k=>τ i = τ j↔∀ p ∈ k,τ p.1 = τ p.2:=by
 rw [nok_tm hx vx,nok_tm hy vy]
 cases h:alike x y with
 | none =>
  intro q
  have e:=rep_eq y
  rw [← tgT_tm τ y,← q,tgT_tm τ x] at e
  rw [e] at h q
  generalize nb y = b at h q
  generalize n1 y = a at h q
  generalize n2 y = c at h q
  cases x with
  | rigid b' n =>
   refine o0_2 (Tm.cs.inj q) fun q1 q2=>?_
   exact Option.some_ne_none _ ((if_pos ⟨q1,q2⟩).symm.trans h)
  | var=>exact Bool.false_ne_true vx.symm
  | _=>exact Option.some_ne_none _ h
 | some k =>
  cases al_of h with
  | rigid=>exact ⟨fun _=>rel_nil (R:=fun a b=>τ a = τ b),fun _=>rfl⟩
  | num=>exact ⟨fun _=>rel_nil (R:=fun a b=>τ a = τ b),fun _=>rfl⟩
  | bool=>exact ⟨fun _=>rel_nil (R:=fun a b=>τ a = τ b),fun _=>rfl⟩
  | list=>exact ⟨fun e=>rel_one (R:=fun a b=>τ a = τ b) (Tm.nd.inj e).2.1,fun r=>congrArg (Tm.nd 0 · _) (rel1 (R:=fun a b=>τ a = τ b) r)⟩
  | _=>exact nd_iff
inductive Eqv (s:Store) (l:List (Nat × Nat)):Nat→Nat→Prop where
 | root {a b:Nat}:s.root a = s.root b→Eqv s l a b
 | pair {a b:Nat}:(a,b) ∈ l→Eqv s l a b
 | symm {a b:Nat}:Eqv s l a b→Eqv s l b a
 | trans {a b c:Nat}:Eqv s l a b→Eqv s l b c→Eqv s l a c
theorem Eqv.map {s s2:Store} {l l2:List (Nat × Nat)} (hr:∀ a b,s.root a = s.root b→Eqv s2 l2 a b) (hl:∀ a b,(a,b) ∈ l→Eqv s2 l2 a b) {a b:Nat} (h:Eqv s l a b):Eqv s2 l2 a b:=by
 induction h with
 | root e=>exact hr _ _ e
 | pair e=>exact hl _ _ e
 | symm _ ih=>exact ih.symm
 | trans _ _ i1 i2=>exact i1.trans i2
theorem Eqv.nil {s:Store} {a b:Nat} (h:Eqv s [] a b):s.root a = s.root b:=by
 induction h with
 | root e=>exact e
 | pair e=>simp at e
 | symm _ ih=>exact ih.symm
 | trans _ _ i1 i2=>exact i1.trans i2
theorem Al.eq {x y:Nd} {k:List (Nat × Nat)} (h:Al x y k):alike x y = some k:=by
 cases h with
 | rigid b n=>exact if_pos ⟨rfl,rfl⟩
 | _=>rfl
theorem alike_trans {R:Nat→Nat→Prop} (tr:∀ a b c,R a b→R b c→R a c) {x y z:Nd} {k1 k2:List (Nat × Nat)} (h1:alike x y = some k1) (h2:alike y z = some k2) (r1:Rel R k1) (r2:Rel R k2):∃ k,alike x z = some k∧Rel R k:=by
 have a:=al_of h1
 have b:=al_inv h2
 clear h1 h2
 cases a with
 | rigid=>(refine o0_2 b fun y12_0 y12_1=>?_; try clear b; subst y12_0; subst y12_1); exact ⟨_,(Al.rigid _ _).eq,rel_nil⟩
 | num=>(refine o0_2 b fun y13_0 y13_1=>?_; try clear b; subst y13_0; subst y13_1); exact ⟨_,rfl,rel_nil⟩
 | bool=>(refine o0_2 b fun y14_0 y14_1=>?_; try clear b; subst y14_0; subst y14_1); exact ⟨_,rfl,rel_nil⟩
 | list=>(refine o1_2 b fun _ y15_1 y15_2=>?_; try clear b; subst y15_1; subst y15_2); exact ⟨_,rfl,rel_one (tr _ _ _ (rel1 r1) (rel1 r2))⟩
 | _=>(refine o2_2 b fun _ _ y16_2 y16_3=>?_; try clear b; subst y16_2; subst y16_3); exact ⟨_,rfl,rel_two (tr _ _ _ (rel2 r1).1 (rel2 r2).1) (tr _ _ _ (rel2 r1).2 (rel2 r2).2)⟩
theorem alike_self {R:Nat→Nat→Prop} (rf:∀ a,R a a) {x:Nd} (h:Rs.isVar x = false):∃ k,alike x x = some k∧Rel R k:=by
 cases x with
 | rigid=>exact ⟨_,(Al.rigid _ _).eq,rel_nil⟩
 | num=>exact ⟨_,rfl,rel_nil⟩
 | bool=>exact ⟨_,rfl,rel_nil⟩
 | list=>exact ⟨_,rfl,rel_one (rf _)⟩
 | var=>exact absurd h.symm Bool.false_ne_true
 | _=>exact ⟨_,rfl,rel_two (rf _) (rf _)⟩
theorem alike_var {x y:Nd} {k:List (Nat × Nat)} (h:alike x y = some k):Rs.isVar x = false∧Rs.isVar y = false:=by
 cases al_of h <;> exact ⟨rfl,rfl⟩
def Cmp (s:Store) (l:List (Nat × Nat)):Prop:=∀ a,a < s.nodes.size→Rs.isVar (ndAt s a) = true∨∃ k,alike (ndAt s a) (s.at_ a) = some k∧Rel (Eqv s l) k
theorem Cmp.var {s:Store} {l:List (Nat × Nat)} (h:Cmp s l) {a:Nat} (ha:a < s.nodes.size) (hv:Rs.isVar (s.at_ a) = true):Rs.isVar (ndAt s a) = true:=by
 rcases h a ha with q | ⟨k,q,_⟩
 ·exact q
 ·rw [(alike_var q).2] at hv; cases hv
def Bd (s:Store) (l:List (Nat × Nat)):Prop:=∀ p ∈ l,p.1 < s.nodes.size∧p.2 < s.nodes.size
def KidsIn (s:Store):Prop:=∀ a,a < s.nodes.size→∀ c ∈ under (ndAt s a),c < s.nodes.size
theorem alike_kids {x y:Nd} {k:List (Nat × Nat)} (h:alike x y = some k):∀ p ∈ k,p.1 ∈ under x∧p.2 ∈ under y:=by
 have a:=al_of h
 clear h
 cases a with
 | rigid=>exact fun p hp=>nomatch hp
 | num=>exact fun p hp=>nomatch hp
 | bool=>exact fun p hp=>nomatch hp
 | list=>exact rel_one (R:=fun a b=>a ∈ [_]∧b ∈ [_]) ⟨List.mem_singleton_self _,List.mem_singleton_self _⟩
 | _=>exact rel_two (R:=fun a b=>a ∈ [_,_]∧b ∈ [_,_]) ⟨List.mem_cons_self,List.mem_cons_self⟩ ⟨List.mem_cons_of_mem _ List.mem_cons_self,List.mem_cons_of_mem _ List.mem_cons_self⟩
theorem al_len {x y:Nd} {k:List (Nat × Nat)} (h:Al x y k):k.length≤2:=by cases h <;> exact of_decide_eq_true rfl
theorem alike_bd {s:Store} (hk:KidsIn s) {a b:Nat} (ha:a < s.nodes.size) (hb:b < s.nodes.size) {k:List (Nat × Nat)} (h:alike (ndAt s a) (ndAt s b) = some k):Bd s k∧k.length≤2 :=
 ⟨fun p hp=>⟨hk a ha _ (alike_kids h p hp).1,hk b hb _ (alike_kids h p hp).2⟩,al_len (al_of h)⟩
end Mi
namespace Mi
open Rs
theorem root_out {s:Store} {B a:Nat} (W:WfS s B) (h:¬ a < s.nodes.size):s.root a = a:=by
 have e:s.put.getD a a = a:=by
  rw [Array.getD_eq_getD_getElem?,Array.getElem?_eq_none (by rw [W.size]; omega)]
  rfl
 unfold Store.root
 exact rootIn_lead (k:=0) (.here e) (by omega)
theorem root_bind {s:Store} {B i j:Nat} (W:WfS s B) (hi:i < s.nodes.size) (hj:j < s.nodes.size) (ri:s.put.getD i i = i) (rj:s.put.getD j j = j) (hij:i≠j) (a:Nat) :
  (s.bind i j).root a = if s.root a = i then j else s.root a:=by
 refine o0_2 (W.bind hi hj ri rj hij) fun W2 h=>?_
 by_cases ha:a < s.nodes.size
 ·exact h a ha
 ·rw [root_out W ha,root_out (s:=s.bind i j) W2 (show ¬ a < s.nodes.size from ha),if_neg (by omega)]
theorem cmp_bind {s:Store} {B i j:Nat} {x:Nat × Nat} {l k:List (Nat × Nat)} (W:WfS s B) (hi:i < s.nodes.size) (hj:j < s.nodes.size) (ri:s.put.getD i i = i) (rj:s.put.getD j j = j) (hij:i≠j)
  (hx:(s.root x.1 = i∧s.root x.2 = j)∨(s.root x.1 = j∧s.root x.2 = i)) (hc:Cmp s (x :: l)) (hk:(Rs.isVar (ndAt s i) = true∧k = [])∨alike (ndAt s i) (ndAt s j) = some k):Cmp (s.bind i j) (k ++ l):=by
 have R:=root_bind W hi hj ri rj hij
 have hri:s.root i = i:=W.root_of hi (.here ri)
 have hrj:s.root j = j:=W.root_of hj (.here rj)
 have E:∀ a b,Eqv s (x :: l) a b→Eqv (s.bind i j) (k ++ l) a b:=fun a b h=>by
  refine h.map (fun a b e=>.root (by rw [R,R,e])) fun a b e=>?_
  rcases List.mem_cons.mp e with e | e
  ·refine .root ?_
   rw [R,R]
   have e1:a = x.1:=congrArg Prod.fst e
   have e2:b = x.2:=congrArg Prod.snd e
   rcases hx with ⟨h1,h2⟩ | ⟨h1,h2⟩
   ·rw [e1,e2,h1,h2,if_pos rfl,if_neg (fun q=>hij q.symm)]
   ·rw [e1,e2,h1,h2,if_pos rfl,if_neg (fun q=>hij q.symm)]
  ·exact .pair (List.mem_append_right _ e)
 intro a ha
 have ha:a < s.nodes.size:=ha
 show Rs.isVar (ndAt s a) = true∨∃ k',alike (ndAt s a) ((s.bind i j).at_ a) = some k'∧_
 have hat:(s.bind i j).at_ a = ndAt s ((s.bind i j).root a):=rfl
 rw [hat,R]
 by_cases e:s.root a = i
 ·rw [if_pos e]
  have hai:s.at_ a = ndAt s i:=by rw [at_nd,e]
  rcases hk with ⟨hv,rfl⟩ | hk
  ·exact .inl (hc.var ha (by rw [hai]; exact hv))
  ·rcases hc a ha with q | ⟨k1,q,r⟩
   ·exact .inl q
   ·rw [hai] at q
    exact .inr (alike_trans (fun _ _ _ h1 h2=>h1.trans h2) q hk (fun p hp=>E _ _ (r p hp)) fun p hp=>.pair (List.mem_append_left _ hp))
 ·rw [if_neg e]
  rcases hc a ha with q | ⟨k1,q,r⟩
  ·exact .inl q
  ·exact .inr ⟨k1,q,fun p hp=>E _ _ (r p hp)⟩
def Done (s:Store) (l:List (Nat × Nat)) (s':Store):Prop :=
 (∃ B',WfS s' B')∧s'.nodes = s.nodes∧Cmp s' []∧(∀ τ,Mdl s' τ↔Mdl s τ∧Rel (fun a b=>τ a = τ b) l)∧(∀ a b,s.root a = s.root b→s'.root a = s'.root b)∧(∀ p ∈ l,s'.root p.1 = s'.root p.2) ∧
 (∀ F:Nat→Prop,(∀ a b,a < s.nodes.size→b < s.nodes.size→s'.root a = s'.root b→F a→F b)→(∀ a,a < s.nodes.size→F a→∀ c ∈ under (ndAt s a),F c)→(∀ p ∈ l,F p.1∧F p.2) →
  ∀ a,a < s.nodes.size→s'.put.getD a a≠s.put.getD a a→F a) ∧
 ∀ G:Nat→Nat→Prop,(∀ a b,G a b→G b a)→(∀ a b c,G a b→G b c→G a c)→(∀ a b k,a < s.nodes.size→b < s.nodes.size→G a b→alike (ndAt s a) (ndAt s b) = some k→Rel G k)→(∀ a,G a (s.root a))→Rel G l→∀ a,G a (s'.root a)
theorem rel_cons {τ:Nat→Tm} {x:Nat × Nat} {l:List (Nat × Nat)}:Rel (fun a b=>τ a = τ b) (x :: l)↔τ x.1 = τ x.2∧Rel (fun a b=>τ a = τ b) l :=
 ⟨fun h=>⟨h x List.mem_cons_self,fun p hp=>h p (List.mem_cons_of_mem _ hp)⟩,fun h p hp=>by
  rcases List.mem_cons.mp hp with e | e
  ·rw [e]; exact h.1
  ·exact h.2 p e⟩
theorem rel_append {τ:Nat→Tm} {k l:List (Nat × Nat)}:Rel (fun a b=>τ a = τ b) (k ++ l)↔Rel (fun a b=>τ a = τ b) k∧Rel (fun a b=>τ a = τ b) l :=
 ⟨fun h=>⟨fun p hp=>h p (List.mem_append_left _ hp),fun p hp=>h p (List.mem_append_right _ hp)⟩,fun h p hp=>(List.mem_append.mp hp).elim (h.1 p) (h.2 p)⟩
theorem mdl_ij {s:Store} {B i j:Nat} {x:Nat × Nat} {τ:Nat→Tm} (W:WfS s B) (hx1:x.1 < s.nodes.size) (hx2:x.2 < s.nodes.size)
  (hx:(s.root x.1 = i∧s.root x.2 = j)∨(s.root x.1 = j∧s.root x.2 = i)) (m:Mdl s τ):τ x.1 = τ x.2↔τ i = τ j:=by
 rw [m.root W hx1,m.root W hx2]
 rcases hx with h | h
 ·rw [h.1,h.2]
 ·rw [h.1,h.2]; exact ⟨Eq.symm,Eq.symm⟩
theorem mdl_k {s:Store} {i j:Nat} {k:List (Nat × Nat)} {τ:Nat→Tm} (hi:i < s.nodes.size) (hj:j < s.nodes.size) (hk:(Rs.isVar (ndAt s i) = true∧k = [])∨alike (ndAt s i) (ndAt s j) = some k) (m:Mdl s τ) (e:τ i = τ j):Rel (fun a b=>τ a = τ b) k:=by
 rcases hk with h | h
 ·rw [h.2]; exact rel_nil
 ·have q:=alike_mdl (m.ok i hi) (m.ok j hj) (alike_var h).1 (alike_var h).2
  rw [h] at q
  exact q.mp e
theorem done_bind {s s':Store} {B i j:Nat} {x:Nat × Nat} {l k:List (Nat × Nat)} (W:WfS s B) (hi:i < s.nodes.size) (hj:j < s.nodes.size) (ri:s.put.getD i i = i) (rj:s.put.getD j j = j) (hij:i≠j) (hx1:x.1 < s.nodes.size) (hx2:x.2 < s.nodes.size)
  (hx:(s.root x.1 = i∧s.root x.2 = j)∨(s.root x.1 = j∧s.root x.2 = i)) (hk:(Rs.isVar (ndAt s i) = true∧k = [])∨alike (ndAt s i) (ndAt s j) = some k) (h:Done (s.bind i j) (k ++ l) s'):Done s (x :: l) s':=by
 refine o0_8 h fun hB hn hc hm hr hp hF hG=>?_
 have R:=root_bind W hi hj ri rj hij
 have hip:i < s.put.size:=by rw [W.size]; exact hi
 have hri:s.root i = i:=W.root_of hi (.here ri)
 have hrj:s.root j = j:=W.root_of hj (.here rj)
 have up:∀ a b,s.root a = s.root b→s'.root a = s'.root b:=fun a b e=>hr a b (by rw [R,R,e])
 have eij:s'.root i = s'.root j:=hr i j (by rw [R,R,hri,hrj,if_pos rfl,if_neg (fun q=>hij q.symm)])
 have e1i:s'.root x.1 = s'.root i:=by
  rcases hx with ⟨h1,_⟩ | ⟨h1,_⟩
  ·exact up _ _ (by rw [h1,hri])
  ·exact (up _ _ (by rw [h1,hrj])).trans eij.symm
 have e2i:s'.root x.2 = s'.root i:=by
  rcases hx with ⟨_,h2⟩ | ⟨_,h2⟩
  ·exact (up _ _ (by rw [h2,hrj])).trans eij.symm
  ·exact up _ _ (by rw [h2,hri])
 refine ⟨hB,hn,hc,fun τ=>?_,up,fun p q=>?_,fun F f1 f2 f3 a ha hne=>?_,fun G g2 g3 g4 g5 g6=>?_⟩
 ·rw [hm τ,mdl_bind W hi ri,rel_append,rel_cons]
  exact ⟨fun h=>⟨h.1.1,(mdl_ij W hx1 hx2 hx h.1.1).mpr h.1.2,h.2.2⟩,fun h=>⟨⟨h.1,(mdl_ij W hx1 hx2 hx h.1).mp h.2.1⟩,mdl_k hi hj hk h.1 ((mdl_ij W hx1 hx2 hx h.1).mp h.2.1),h.2.2⟩⟩
 ·rcases List.mem_cons.mp q with q | q
  ·subst q
   rw [e1i,e2i]
  ·exact hp p (List.mem_append_right _ q)
 ·refine o0_2 (f3 x (by simp)) fun g1 g2=>?_
  have Fi:F i:=f1 x.1 i hx1 hi e1i g1
  have Fj:F j:=f1 i j hi hj eij Fi
  by_cases ea:a = i
  ·rw [ea]; exact Fi
  ·refine hF F f1 f2 (fun p hp=>?_) a ha (by rw [bind_put hip,if_neg ea]; exact hne)
   rcases List.mem_append.mp hp with q | q
   ·rcases hk with ⟨_,rfl⟩ | hk
    ·simp at q
    ·refine o0_2 (alike_kids hk p q) fun k1 k2=>?_
     exact ⟨f2 i hi Fi _ k1,f2 j hj Fj _ k2⟩
   ·exact f3 p (by simp [q])
 ·have x12:G x.1 x.2:=g6 x (by simp)
  have xij:G i j:=by
   have a1:=g5 x.1
   have a2:=g5 x.2
   have q:G (s.root x.1) (s.root x.2):=g3 _ _ _ (g2 _ _ a1) (g3 _ _ _ x12 a2)
   rcases hx with ⟨h1,h2⟩ | ⟨h1,h2⟩
   ·rw [h1,h2] at q; exact q
   ·rw [h1,h2] at q; exact g2 _ _ q
  refine hG G g2 g3 g4 (fun a=>?_) fun p hp=>?_
  ·rw [R]
   split
   ·rename_i e
    have:=g5 a
    rw [e] at this
    exact g3 _ _ _ this xij
   ·exact g5 a
  ·rcases List.mem_append.mp hp with q | q
   ·rcases hk with ⟨_,rfl⟩ | hk
    ·simp at q
    ·exact g4 i j k hi hj xij hk p q
   ·exact g6 p (by simp [q])
theorem cmp_congr {s:Store} {l l':List (Nat × Nat)} (h:∀ p,p ∈ l→p ∈ l') (hc:Cmp s l):Cmp s l':=fun a ha=>by
 rcases hc a ha with q | ⟨k,q,r⟩
 ·exact .inl q
 ·exact .inr ⟨k,q,fun p hp=>(r p hp).map (fun _ _ z=>.root z) fun a b z=>.pair (h _ z)⟩
theorem cmp_same {s:Store} {x:Nat × Nat} {l:List (Nat × Nat)} (e:s.root x.1 = s.root x.2) (hc:Cmp s (x :: l)):Cmp s l:=fun a ha=>by
 rcases hc a ha with q | ⟨k,q,r⟩
 ·exact .inl q
 ·refine .inr ⟨k,q,fun p hp=>(r p hp).map (fun _ _ z=>.root z) fun a b z=>?_⟩
  rcases List.mem_cons.mp z with z | z
  ·refine .root ?_
   rw [← z] at e
   exact e
  ·exact .pair z
theorem done_congr {s s':Store} {l l':List (Nat × Nat)} (h:∀ p,p ∈ l↔p ∈ l') (D:Done s l s'):Done s l' s':=by
 refine o0_8 D fun hB hn hc hm hr hp hF hG=>?_
 have rl:∀ R:Nat→Nat→Prop,Rel R l↔Rel R l':=fun R=>⟨fun q p z=>q p ((h p).mpr z),fun q p z=>q p ((h p).mp z)⟩
 refine ⟨hB,hn,hc,fun τ=>by rw [hm τ,rl],hr,fun p z=>hp p ((h p).mpr z),fun F f1 f2 f3=>hF F f1 f2 fun p z=>f3 p ((h p).mp z),fun G g2 g3 g4 g5 g6=>hG G g2 g3 g4 g5 ((rl G).mpr g6)⟩
def Res (s:Store) (l:List (Nat × Nat)):Option Store→Prop
 | none=>∀ τ,Mdl s τ→¬ Rel (fun a b=>τ a = τ b) l
 | some s'=>Done s l s'
theorem res_congr {s:Store} {l l':List (Nat × Nat)} (h:∀ p,p ∈ l↔p ∈ l'):∀ {R:Option Store},Res s l R→Res s l' R
 | none,q=>fun τ m r=>q τ m fun p z=>r p ((h p).mp z)
 | some _,q=>done_congr h q
theorem res_same {s:Store} {B:Nat} {x:Nat × Nat} {l:List (Nat × Nat)} (W:WfS s B) (hx:x.1 < s.nodes.size∧x.2 < s.nodes.size) (e:s.root x.1 = s.root x.2):∀ {R:Option Store},Res s l R→Res s (x :: l) R
 | none,h=>fun τ m r=>h τ m (rel_cons.mp r).2
 | some s',h=>by
  refine o0_8 h fun hB hn hcm hm hr hp hF hG=>?_
  refine ⟨hB,hn,hcm,fun τ=>?_,hr,fun p hpp=>?_,fun F f1 f2 f3=>hF F f1 f2 fun p hpp=>f3 p (List.mem_cons_of_mem _ hpp),fun G g2 g3 g4 g5 g6=>hG G g2 g3 g4 g5 fun p hpp=>g6 p (List.mem_cons_of_mem _ hpp)⟩
  ·rw [hm τ,rel_cons]
   exact ⟨fun z=>⟨z.1,by rw [z.1.root W hx.1,z.1.root W hx.2,e],z.2⟩,fun z=>⟨z.1,z.2.2⟩⟩
  ·rcases List.mem_cons.mp hpp with z | z
   ·rw [z]
    exact hr _ _ e
   ·exact hp p z
theorem res_bind {s:Store} {B i j:Nat} {x:Nat × Nat} {l k:List (Nat × Nat)} (W:WfS s B) (hi:i < s.nodes.size) (hj:j < s.nodes.size) (ri:s.put.getD i i = i) (rj:s.put.getD j j = j) (hij:i≠j) (hb:x.1 < s.nodes.size∧x.2 < s.nodes.size)
  (hx:(s.root x.1 = i∧s.root x.2 = j)∨(s.root x.1 = j∧s.root x.2 = i)) (hk:(Rs.isVar (ndAt s i) = true∧k = [])∨alike (ndAt s i) (ndAt s j) = some k):∀ {R:Option Store},Res (s.bind i j) (k ++ l) R→Res s (x :: l) R
 | none,h=>fun τ m r=>h τ ((mdl_bind W hi ri).mpr ⟨m,(mdl_ij W hb.1 hb.2 hx m).mp (rel_cons.mp r).1⟩) (rel_append.mpr ⟨mdl_k hi hj hk m ((mdl_ij W hb.1 hb.2 hx m).mp (rel_cons.mp r).1),(rel_cons.mp r).2⟩)
 | some _,h=>done_bind W hi hj ri rj hij hb.1 hb.2 hx hk h
theorem res_none {s:Store} {B:Nat} {x:Nat × Nat} {l:List (Nat × Nat)} (W:WfS s B) (hb:x.1 < s.nodes.size∧x.2 < s.nodes.size) (v1:Rs.isVar (ndAt s (s.root x.1)) = false) (v2:Rs.isVar (ndAt s (s.root x.2)) = false) (hk:alike (ndAt s (s.root x.1)) (ndAt s (s.root x.2)) = none):Res s (x :: l) none:=fun τ m r=>by
 have q:=alike_mdl (m.ok _ (W.root_lt hb.1)) (m.ok _ (W.root_lt hb.2)) v1 v2
 rw [hk] at q
 exact q ((mdl_ij W hb.1 hb.2 (.inl ⟨rfl,rfl⟩) m).mp (rel_cons.mp r).1)
theorem fuel_k {n n' k l f:Nat} (h:n = n' + 1) (hk:k≤2) (q:2 * n + l≤f):2 * n' + (k + l)≤f:=by
 rw [h] at q
 refine Nat.le_trans ?_ q
 rw [← Nat.add_assoc]
 exact Nat.add_le_add_right (Nat.add_le_add_left hk _) _
structure StepA (F:Nat→Store→List (Nat × Nat)→Option Store) (ρ:List (Nat × Nat)→List (Nat × Nat)):Prop where
 nil:∀ f s,F f s [] = some s
 same:∀ f s x l,s.root x.1 = s.root x.2→F (f + 1) s (x :: l) = F f s l
 v1:∀ f s x l,s.at_ (s.root x.1) = ndAt s (s.root x.1)→¬ s.root x.1 = s.root x.2→Rs.isVar (ndAt s (s.root x.1)) = true→F (f + 1) s (x :: l) = F f (s.bind (s.root x.1) (s.root x.2)) l
 v2:∀ f s x l,s.at_ (s.root x.1) = ndAt s (s.root x.1)→s.at_ (s.root x.2) = ndAt s (s.root x.2)→¬ s.root x.1 = s.root x.2→Rs.isVar (ndAt s (s.root x.1)) = false→Rs.isVar (ndAt s (s.root x.2)) = true→F (f + 1) s (x :: l) = F f (s.bind (s.root x.2) (s.root x.1)) l
 al:∀ f s x l,s.at_ (s.root x.1) = ndAt s (s.root x.1)→s.at_ (s.root x.2) = ndAt s (s.root x.2)→¬ s.root x.1 = s.root x.2→Rs.isVar (ndAt s (s.root x.1)) = false→Rs.isVar (ndAt s (s.root x.2)) = false→F (f + 1) s (x :: l) = (alike (ndAt s (s.root x.1)) (ndAt s (s.root x.2))).bind fun k=>F f (s.bind (s.root x.1) (s.root x.2)) (ρ k ++ l)
 mem:∀ k p,p ∈ ρ k↔p ∈ k
 len:∀ k,(ρ k).length = k.length
theorem stepA_ok {F:Nat→Store→List (Nat × Nat)→Option Store} {ρ:List (Nat × Nat)→List (Nat × Nat)} (A:StepA F ρ):∀ (f:Nat) (s:Store) (B:Nat) (l:List (Nat × Nat)),WfS s B→KidsIn s→Bd s l→Cmp s l→2 * nrs s + l.length≤f→Res s l (F f s l)
 | f,s,B,[],W,hK,hb,hc,hf=>by
  rw [A.nil]
  exact ⟨⟨B,W⟩,rfl,hc,fun τ=>⟨fun m=>⟨m,rel_nil⟩,fun m=>m.1⟩,fun _ _ q=>q,fun p hp=>(nomatch hp),fun F _ _ _ a _ hne=>absurd rfl hne,fun G _ _ _ g5 _=>g5⟩
 | 0,s,B,x :: l,W,hK,hb,hc,hf=>absurd hf (Nat.not_succ_le_zero _)
 | f + 1,s,B,x :: l,W,hK,hb,hc,hf=>by
  have hx:=hb x List.mem_cons_self
  have hi:=W.root_lt hx.1
  have hj:=W.root_lt hx.2
  have ri:=W.self hx.1
  have rj:=W.self hx.2
  have hbl:Bd s l:=fun p hp=>hb p (List.mem_cons_of_mem _ hp)
  have fl:2 * nrs s + l.length≤f:=Nat.le_of_succ_le_succ hf
  have a1:s.at_ (s.root x.1) = ndAt s (s.root x.1):=by rw [at_nd,W.root_root hx.1]
  have a2:s.at_ (s.root x.2) = ndAt s (s.root x.2):=by rw [at_nd,W.root_root hx.2]
  by_cases e:s.root x.1 = s.root x.2
  ·rw [A.same f s x l e]
   exact res_same W hx e (stepA_ok A f s B l W hK hbl (cmp_same e hc) fl)
  ·have e':s.root x.2≠s.root x.1:=fun z=>e z.symm
   cases v1:Rs.isVar (ndAt s (s.root x.1)) with
   | true =>
    rw [A.v1 f s x l a1 e v1]
    exact res_bind (k:=[]) W hi hj ri rj e hx (.inl ⟨rfl,rfl⟩) (.inl ⟨v1,rfl⟩) (stepA_ok A f _ (B + 1) l (W.bind hi hj ri rj e).1 hK hbl (cmp_bind (k:=[]) W hi hj ri rj e (.inl ⟨rfl,rfl⟩) hc (.inl ⟨v1,rfl⟩))
     (Nat.zero_add l.length ▸ fuel_k (nrs_bind W.size hi ri e) (Nat.zero_le 2) fl))
   | false =>
    cases v2:Rs.isVar (ndAt s (s.root x.2)) with
    | true =>
     rw [A.v2 f s x l a1 a2 e v1 v2]
     exact res_bind (k:=[]) W hj hi rj ri e' hx (.inr ⟨rfl,rfl⟩) (.inl ⟨v2,rfl⟩) (stepA_ok A f _ (B + 1) l (W.bind hj hi rj ri e').1 hK hbl (cmp_bind (k:=[]) W hj hi rj ri e' (.inr ⟨rfl,rfl⟩) hc (.inl ⟨v2,rfl⟩))
      (Nat.zero_add l.length ▸ fuel_k (nrs_bind W.size hj rj e') (Nat.zero_le 2) fl))
    | false =>
     rw [A.al f s x l a1 a2 e v1 v2]
     cases hk:alike (ndAt s (s.root x.1)) (ndAt s (s.root x.2)) with
     | none=>exact res_none W hx v1 v2 hk
     | some k =>
      have kb:=alike_bd hK hi hj hk
      have mem:∀ p,p ∈ ρ k ++ l↔p ∈ k ++ l:=fun p=>by rw [List.mem_append,List.mem_append,A.mem]
      refine res_bind (k:=k) W hi hj ri rj e hx (.inl ⟨rfl,rfl⟩) (.inr hk) (res_congr mem (stepA_ok A f _ (B + 1) (ρ k ++ l) (W.bind hi hj ri rj e).1 hK (fun p hp=>?_) (cmp_congr (fun p h=>(mem p).mpr h) (cmp_bind (k:=k) W hi hj ri rj e (.inl ⟨rfl,rfl⟩) hc (.inr hk))) ?_))
      ·exact (List.mem_append.mp ((mem p).mp hp)).elim (kb.1 p) (hbl p)
      ·rw [List.length_append,A.len]
       exact fuel_k (nrs_bind W.size hi ri e) kb.2 fl
theorem same_stepA:StepA sameAll id:=by
 refine ⟨fun f s=>by cases f <;> rfl,fun f s x l e=>if_pos e,fun f s x l a1 e v=>?_,fun f s x l a1 a2 e v w=>?_,fun f s x l a1 a2 e v w=>?_,fun _ _=>Iff.rfl,fun _=>rfl⟩
 ·exact (if_neg e).trans (if_pos (by rw [a1]; exact v))
 ·exact (if_neg e).trans ((if_neg (by rw [a1,v]; exact Bool.false_ne_true)).trans (if_pos (by rw [a2]; exact w)))
 ·refine (if_neg e).trans ((if_neg (by rw [a1,v]; exact Bool.false_ne_true)).trans ((if_neg (by rw [a2,w]; exact Bool.false_ne_true)).trans ?_))
  rw [a1,a2]
  cases alike (ndAt s (s.root x.1)) (ndAt s (s.root x.2)) <;> rfl
theorem sameAll_ok (f:Nat) (s:Store) (B:Nat) (l:List (Nat × Nat)):WfS s B→KidsIn s→Bd s l→Cmp s l→2 * nrs s + l.length≤f →
  match sameAll f s l with
  | none=>∀ τ,Mdl s τ→¬ Rel (fun a b=>τ a = τ b) l
  | some s'=>Done s l s':=stepA_ok same_stepA f s B l
end Mi
namespace Mi
open Rs
def FnH (s:Store):Nat→Nat→Prop
 | 0,_=>False
 | h + 1,i=>∀ c ∈ under (s.at_ i),FnH s h c
theorem FnH.mono {s:Store}:∀ {h h' i:Nat},FnH s h i→h≤h'→FnH s h' i
 | 0,_,_,h,_=>h.elim
 | h + 1,0,_,_,hl=>by omega
 | h + 1,h' + 1,i,hf,hl=>fun c hc=>FnH.mono (hf c hc) (by omega)
theorem FnH.root {s:Store} {h i j:Nat} (hf:FnH s h i) (e:s.root i = s.root j):FnH s h j:=by
 cases h with
 | zero=>exact hf
 | succ h =>
  intro c hc
  refine hf c ?_
  rw [at_nd,e,← at_nd]
  exact hc
theorem FnH.least {s:Store} {i:Nat}:∀ {h:Nat},FnH s h i→∃ m,FnH s m i∧∀ m',m' < m→¬ FnH s m' i
 | 0,hf=>hf.elim
 | h + 1,hf=>by
  by_cases e:FnH s h i
  ·exact FnH.least e
  ·exact ⟨h + 1,hf,fun m' hm q=>e (q.mono (by omega))⟩
theorem go_none (s:Store):∀ (f i:Nat),goThrough s f none i = none
 | 0,_=>rfl
 | _ + 1,_=>rfl
theorem fold_none (s:Store) (f:Nat):∀ l:List Nat,l.foldl (goThrough s f) none = none
 | []=>rfl
 | x :: l=>by rw [List.foldl_cons,go_none,fold_none s f l]
theorem getD_set {c:Array Nat} {r k x:Nat} (hr:r < c.size):(c.setIfInBounds r x).getD k 0 = if k = r then x else c.getD k 0:=by
 simp only [Array.getD_eq_getD_getElem?,Array.getElem?_setIfInBounds]
 by_cases e:r = k
 ·subst e; simp [hr]
 ·rw [if_neg e,if_neg (fun q=>e q.symm)]
theorem fn_bound {s:Store}:∀ l:List Nat,(∀ x ∈ l,∃ h,FnH s h x)→∃ m,∀ x ∈ l,FnH s m x
 | [],_=>⟨0,fun x hx=>nomatch hx⟩
 | x :: l,q=>by
  refine o1_1 (fn_bound l fun y hy=>q y (List.mem_cons_of_mem _ hy)) fun m hm=>?_
  refine o1_1 (q x List.mem_cons_self) fun m' hm'=>?_
  refine ⟨max m m',fun y hy=>?_⟩
  rcases List.mem_cons.mp hy with hy | hy
  ·rw [hy]; exact hm'.mono (Nat.le_max_right _ _)
  ·exact (hm y hy).mono (Nat.le_max_left _ _)
structure Left (s:Store) (c c':Array Nat):Prop where
 two:∀ k,c'.getD k 0 = 2→∃ h,FnH s h k
 size:c'.size = c.size
 one:∀ k,c'.getD k 0 = 1↔c.getD k 0 = 1
theorem go_sound {s:Store} {B:Nat} (W:WfS s B) (hK:KidsIn s):∀ (f:Nat) (c c':Array Nat) (i:Nat),i < s.nodes.size→c.size = s.nodes.size→(∀ k,c.getD k 0 = 2→∃ h,FnH s h k)→goThrough s f (some c) i = some c'→(∃ h,FnH s h i)∧Left s c c'
 | 0,c,c',i,_,_,_,h=>by simp [goThrough] at h
 | f + 1,c,c',i,hi,hs,h2,h=>by
  have hr:=W.root_lt hi
  have hrr:=W.root_root hi
  simp only [goThrough] at h
  by_cases e2:c.getD (s.root i) 0 = 2
  ·rw [if_pos e2] at h
   cases h
   refine o1_1 (h2 _ e2) fun m hm=>?_
   exact ⟨⟨m,hm.root hrr⟩,h2,rfl,fun _=>Iff.rfl⟩
  ·rw [if_neg e2] at h
   by_cases e1:c.getD (s.root i) 0 = 1
   ·rw [if_pos e1] at h; cases h
   ·rw [if_neg e1] at h
    have hrc:s.root i < c.size:=by rw [hs]; exact hr
    have hkid:∀ x ∈ under (s.at_ (s.root i)),x < s.nodes.size:=fun x hx=>by
     rw [at_nd,hrr] at hx
     exact hK _ hr x hx
    have kids:∀ (l:List Nat) (d d':Array Nat),(∀ x ∈ l,x < s.nodes.size)→d.size = s.nodes.size→(∀ k,d.getD k 0 = 2→∃ h,FnH s h k)→l.foldl (goThrough s f) (some d) = some d'→(∀ x ∈ l,∃ h,FnH s h x)∧Left s d d':=by
     intro l
     induction l with
     | nil =>
      intro d d' _ _ hd2 q
      cases q
      exact ⟨fun x hx=>by simp at hx,hd2,rfl,fun _=>Iff.rfl⟩
     | cons x l ih =>
      intro d d' hl hd hd2 q
      rw [List.foldl_cons] at q
      cases e:goThrough s f (some d) x with
      | none=>rw [e,fold_none] at q; cases q
      | some d1 =>
       rw [e] at q
       refine o0_2 (go_sound W hK f d d1 x (hl x (by simp)) hd hd2 e) fun g1 g2=>?_
       refine o0_2 (ih d1 d' (fun y hy=>hl y (by simp [hy])) (g2.size.trans hd) g2.two q) fun k1 k2=>?_
       refine ⟨fun y hy=>?_,k2.two,k2.size.trans g2.size,fun k=>(k2.one k).trans (g2.one k)⟩
       rcases List.mem_cons.mp hy with rfl | hy
       ·exact g1
       ·exact k1 y hy
    cases e:(under (s.at_ (s.root i))).foldl (goThrough s f) (some (c.setIfInBounds (s.root i) 1)) with
    | none=>rw [e] at h; cases h
    | some d =>
     rw [e] at h
     have h:d.setIfInBounds (s.root i) 2 = c':=Option.some.inj h
     obtain ⟨k1,k2⟩:=kids _ _ d hkid (by rw [Array.size_setIfInBounds]; exact hs) (fun k q=>by
      rw [getD_set hrc] at q
      split at q
      ·cases q
      ·exact h2 k q) e
     refine o1_1 (fn_bound _ k1) fun m hm=>?_
     have hfr:FnH s (m + 1) (s.root i):=hm
     have hds:s.root i < d.size:=by rw [k2.size,Array.size_setIfInBounds]; exact hrc
     subst h
     refine ⟨⟨m + 1,hfr.root hrr⟩,fun k q=>?_,by rw [Array.size_setIfInBounds,k2.size,Array.size_setIfInBounds],fun k=>?_⟩
     ·rw [getD_set hds] at q
      split at q
      ·rename_i ek
       rw [ek]
       exact ⟨_,hfr⟩
      ·exact k2.two k q
     ·rw [getD_set hds]
      by_cases ek:k = s.root i
      ·rw [if_pos ek,ek]
       exact ⟨fun q=>absurd q (by decide),fun q=>absurd q e1⟩
      ·rw [if_neg ek,k2.one k,getD_set hrc,if_neg ek]
theorem kids_sound {s:Store} {B:Nat} (W:WfS s B) (hK:KidsIn s) (f:Nat):∀ (l:List Nat) (d d':Array Nat),(∀ x ∈ l,x < s.nodes.size)→d.size = s.nodes.size→(∀ k,d.getD k 0 = 2→∃ h,FnH s h k)→l.foldl (goThrough s f) (some d) = some d'→(∀ x ∈ l,∃ h,FnH s h x)
 | [],_,_,_,_,_,_=>fun x hx=>by simp at hx
 | x :: l,d,d',hl,hd,hd2,q=>by
  rw [List.foldl_cons] at q
  cases e:goThrough s f (some d) x with
  | none=>rw [e,fold_none] at q; cases q
  | some d1 =>
   rw [e] at q
   refine o0_2 (go_sound W hK f d d1 x (hl x (by simp)) hd hd2 e) fun g1 g2=>?_
   have k1:=kids_sound W hK f l d1 d' (fun y hy=>hl y (by simp [hy])) (g2.size.trans hd) g2.two q
   intro y hy
   rcases List.mem_cons.mp hy with rfl | hy
   ·exact g1
   ·exact k1 y hy
def ones (n:Nat) (c:Array Nat):Nat:=(List.range n).countP fun k=>c.getD k 0 == 1
theorem ones_le (n:Nat) (c:Array Nat):ones n c≤n:=by
 have:=List.countP_le_length (p:=fun k=>c.getD k 0 == 1) (l:=List.range n)
 rw [List.length_range] at this
 exact this
theorem ones_congr {n:Nat} {c d:Array Nat} (h:∀ k,d.getD k 0 = 1↔c.getD k 0 = 1):ones n d = ones n c:=by
 unfold ones
 refine List.countP_congr fun k _=>?_
 simp only [beq_iff_eq]
 exact h k
theorem go_complete {s:Store} {B:Nat} (W:WfS s B) (hK:KidsIn s):∀ (f:Nat) (c:Array Nat) (i:Nat),i < s.nodes.size→c.size = s.nodes.size→(∃ h,FnH s h i)→(∀ k,c.getD k 0 = 1→∀ h,FnH s h k→∃ h',h' < h∧FnH s h' i)→s.nodes.size + 2≤f + ones s.nodes.size c →
  ∃ c',goThrough s f (some c) i = some c'∧c'.size = s.nodes.size∧∀ k,c'.getD k 0 = 1↔c.getD k 0 = 1
 | 0,c,i,_,_,_,_,hf=>by have:=ones_le s.nodes.size c; omega
 | f + 1,c,i,hi,hs,hfi,hp,hf=>by
  have hr:=W.root_lt hi
  have hrr:=W.root_root hi
  simp only [goThrough]
  by_cases e2:c.getD (s.root i) 0 = 2
  ·rw [if_pos e2]
   exact ⟨c,rfl,hs,fun _=>Iff.rfl⟩
  ·rw [if_neg e2]
   have e1:c.getD (s.root i) 0≠1:=fun q=>by
    refine o1_1 hfi fun h hh=>?_
    refine o1_2 (FnH.least (hh.root hrr.symm)) fun m hm hmin=>?_
    refine o1_2 (hp _ q m hm) fun m' hlt hm'=>?_
    exact hmin m' hlt (hm'.root hrr.symm)
   rw [if_neg e1]
   have hrc:s.root i < c.size:=by rw [hs]; exact hr
   have hkid:∀ x ∈ under (s.at_ (s.root i)),x < s.nodes.size:=fun x hx=>by
    rw [at_nd,hrr] at hx
    exact hK _ hr x hx
   have hones:ones s.nodes.size (c.setIfInBounds (s.root i) 1) = ones s.nodes.size c + 1:=by
    unfold ones
    refine countP_one (i:=s.root i) List.nodup_range (List.mem_range.mpr hr) (fun k hk=>?_) ?_ ?_
    ·rw [getD_set hrc,if_neg hk]
    ·simpa using e1
    ·rw [getD_set hrc,if_pos rfl]; rfl
   have hfr:∃ h,FnH s h (s.root i):=hfi.elim fun h hh=>⟨h,hh.root hrr.symm⟩
   have kids:∀ (l:List Nat) (d:Array Nat),(∀ x ∈ l,x ∈ under (s.at_ (s.root i)))→d.size = s.nodes.size→(∀ k,d.getD k 0 = 1↔(c.setIfInBounds (s.root i) 1).getD k 0 = 1) →
     ∃ d',l.foldl (goThrough s f) (some d) = some d'∧d'.size = s.nodes.size∧∀ k,d'.getD k 0 = 1↔(c.setIfInBounds (s.root i) 1).getD k 0 = 1:=by
    intro l
    induction l with
    | nil=>exact fun d _ hd h1=>⟨d,rfl,hd,h1⟩
    | cons x l ih =>
     intro d hl hd h1
     have hx:=hl x (by simp)
     have hxf:∃ h,FnH s h x:=by
      refine o1_1 hfr fun h hh=>?_
      cases h with
      | zero=>exact hh.elim
      | succ h=>exact ⟨h,hh x hx⟩
     obtain ⟨d1,q1,q2,q3⟩:=go_complete W hK f d x (hkid x hx) hd hxf (fun k hk h hh=>by
      rw [h1 k,getD_set hrc] at hk
      split at hk
      ·rename_i ek
       rw [ek] at hh
       cases h with
       | zero=>exact hh.elim
       | succ h=>exact ⟨h,by omega,hh x hx⟩
      ·refine o1_2 (hp k hk h hh) fun h' hlt hh'=>?_
       cases h' with
       | zero=>exact hh'.elim
       | succ h'=>exact ⟨h',by omega,(hh'.root hrr.symm) x hx⟩) (by rw [ones_congr h1,hones]; omega)
     refine o1_3 (ih d1 (fun y hy=>hl y (by simp [hy])) q2 fun k=>(q3 k).trans (h1 k)) fun d' r1 r2 r3=>?_
     exact ⟨d',by rw [List.foldl_cons,q1]; exact r1,r2,r3⟩
   (refine o1_3 (kids (under (s.at_ (s.root i))) (c.setIfInBounds (s.root i) 1) (fun _ q=>q) (by rw [Array.size_setIfInBounds]; exact hs) fun _=>Iff.rfl) fun d r1 r2 r3=>?_)
   have hds:s.root i < d.size:=by rw [r2]; exact hr
   refine ⟨d.setIfInBounds (s.root i) 2,by rw [r1]; rfl,by rw [Array.size_setIfInBounds]; exact r2,fun k=>?_⟩
   rw [getD_set hds]
   by_cases ek:k = s.root i
   ·rw [if_pos ek,ek]
    exact ⟨fun q=>absurd q (by decide),fun q=>absurd q e1⟩
   ·rw [if_neg ek,r3 k,getD_set hrc,if_neg ek]
theorem straight_iff {s:Store} {B:Nat} (W:WfS s B) (hK:KidsIn s) {l:List Nat} (hl:∀ x ∈ l,x < s.nodes.size):straight s l = true↔∀ x ∈ l,∃ h,FnH s h x:=by
 have z:∀ k,(Array.replicate s.nodes.size 0).getD k 0 = 0:=fun k=>by
  rw [Array.getD_eq_getD_getElem?,Array.getElem?_replicate]
  split <;> rfl
 unfold straight
 constructor
 ·intro h
  refine o1_1 (Option.isSome_iff_exists.mp h) fun d hd=>?_
  exact kids_sound W hK _ l _ d hl (by simp) (fun k q=>by rw [z] at q; cases q) hd
 ·intro h
  have go:∀ (l:List Nat) (d:Array Nat),(∀ x ∈ l,x < s.nodes.size)→(∀ x ∈ l,∃ h,FnH s h x)→d.size = s.nodes.size→(∀ k,d.getD k 0≠1)→∃ d',l.foldl (goThrough s (s.nodes.size + 2)) (some d) = some d':=by
   intro l
   induction l with
   | nil=>exact fun d _ _ _ _=>⟨d,rfl⟩
   | cons x l ih =>
    intro d hl hf hd h1
    refine o1_3 (go_complete W hK (s.nodes.size + 2) d x (hl x (by simp)) hd (hf x (by simp)) (fun k q=>absurd q (h1 k)) (by omega)) fun d1 q1 q2 q3=>?_
    refine o1_1 (ih d1 (fun y hy=>hl y (by simp [hy])) (fun y hy=>hf y (by simp [hy])) q2 fun k q=>h1 k ((q3 k).mp q)) fun d' r=>?_
    exact ⟨d',by rw [List.foldl_cons,q1]; exact r⟩
  (refine o1_1 (go l (Array.replicate s.nodes.size 0) hl h (by simp) fun k=>by rw [z]; decide) fun d hd=>?_)
  rw [hd]
  rfl
def Tm.size:Tm→Nat
 | .nd _ a b=>a.size + b.size + 1
 | _=>1
theorem mdl_fin {s:Store} {B:Nat} {τ:Nat→Tm} (W:WfS s B) (hK:KidsIn s) (m:Mdl s τ):∀ (h i:Nat),i < s.nodes.size→(τ i).size≤h→FnH s h i
 | 0,i,_,hz=>by
  have:1≤(τ i).size:=by cases τ i <;> simp [Tm.size]
  omega
 | h + 1,i,hi,hz=>by
  intro c hc
  have hr:=W.root_lt hi
  have e:=m.root W hi
  have ok:=m.ok _ hr
  rw [at_nd] at hc
  have hck:=hK _ hr c hc
  refine mdl_fin W hK m h c hck ?_
  rw [e] at hz
  generalize ndAt s (s.root i) = x at hc ok
  cases x <;> simp only [under,List.not_mem_nil,List.mem_cons,or_false] at hc <;> simp only [Nok] at ok <;> rw [ok] at hz <;> simp only [Tm.size] at hz
  ·subst hc; omega
  all_goals (rcases hc with rfl | rfl <;> omega)
end Mi
namespace Mi
open Rs
mutual
def embT (χ:Bool→Nat→Tm):Ty→Tm
 | .num=>.lf 0
 | .bool=>.lf 1
 | .list t=>.nd 0 (embT χ t) (.lf 2)
 | .pair a b=>.nd 1 (embT χ a) (embT χ b)
 | .fn r s=>.nd 2 (embR χ r) (embR χ s)
 | .var n=>χ false n
def embR (χ:Bool→Nat→Tm):Row→Tm
 | .var n=>χ true n
 | .snoc r t=>.nd 3 (embR χ r) (embT χ t)
end
def Dag (s:Store):Prop:=∀ i,i < s.nodes.size→∀ c ∈ under (ndAt s i),c < i
theorem Dag.kids {s:Store} (h:Dag s):KidsIn s:=fun a ha c hc=>Nat.lt_trans (h a ha c hc) ha
theorem ndAt_old {s:Store} {d:Nd} {i:Nat} (h:i < s.nodes.size):ndAt (s.add d).1 i = ndAt s i:=by
 unfold ndAt Store.add
 simp only [Array.getD_eq_getD_getElem?,Array.getElem?_push]
 rw [if_neg (by omega)]
theorem ndAt_new {s:Store} {d:Nd}:ndAt (s.add d).1 s.nodes.size = d:=by
 unfold ndAt Store.add
 simp only [Array.getD_eq_getD_getElem?,Array.getElem?_push,if_true,Option.getD_some]
theorem dag_add {s:Store} {d:Nd} (h:Dag s) (hd:∀ c ∈ under d,c < s.nodes.size):Dag (s.add d).1:=fun i hi c hc=>by
 rw [add_size] at hi
 by_cases e:i = s.nodes.size
 ·subst e
  rw [ndAt_new] at hc
  exact hd c hc
 ·rw [ndAt_old (by omega)] at hc
  exact h i (by omega) c hc
theorem nok_congr {τ τ':Nat→Tm} {i:Nat} {x:Nd} (hi:τ' i = τ i) (hc:∀ c ∈ under x,τ' c = τ c) (h:Nok τ i x):Nok τ' i x:=by
 cases x <;> simp only [under,List.mem_cons,List.not_mem_nil,or_false,forall_eq_or_imp,forall_eq] at hc <;> simp only [Nok] at h ⊢ <;> first | trivial | (rw [hi,h]; done) | (rw [hi,h,hc]; done) | rw [hi,h,hc.1,hc.2]
theorem mdl_add {s:Store} {d:Nd} {τ:Nat→Tm} (hf:FlatS s):Mdl (s.add d).1 τ↔Mdl s τ∧Nok τ s.nodes.size d:=by
 have hf2:=flat_add hf d
 constructor
 ·intro m
  refine ⟨⟨fun i hi=>?_,fun i hi=>by rw [hf.put]⟩,?_⟩
  ·have:=m.ok i (by rw [add_size]; omega)
   rw [ndAt_old hi] at this
   exact this
  ·have:=m.ok s.nodes.size (by rw [add_size]; omega)
   rw [ndAt_new] at this
   exact this
 ·(intro oi1; refine o0_2 oi1 fun m h=>?_; try clear oi1)
  refine ⟨fun i hi=>?_,fun i hi=>by rw [hf2.put]⟩
  rw [add_size] at hi
  by_cases e:i = s.nodes.size
  ·subst e; rw [ndAt_new]; exact h
  ·rw [ndAt_old (by omega)]; exact m.ok i (by omega)
def SrtN (κ:Nat→Bool) (i:Nat):Nd→Prop
 | .var=>True
 | .rigid b _=>κ i = b
 | .num=>κ i = false
 | .bool=>κ i = false
 | .list a=>κ i = false∧κ a = false
 | .pair a b=>κ i = false∧κ a = false∧κ b = false
 | .fn a b=>κ i = false∧κ a = true∧κ b = true
 | .snoc a b=>κ i = true∧κ a = true∧κ b = false
def Srt (s:Store) (κ:Nat→Bool):Prop:=∀ i,i < s.nodes.size→SrtN κ i (ndAt s i)
theorem srt_congr {κ κ':Nat→Bool} {i:Nat} {x:Nd} (hi:κ' i = κ i) (hc:∀ c ∈ under x,κ' c = κ c) (h:SrtN κ i x):SrtN κ' i x:=by
 cases x <;> simp only [under,List.mem_cons,List.not_mem_nil,or_false,forall_eq_or_imp,forall_eq] at hc <;> simp only [SrtN] at h ⊢ <;> first | trivial | (rw [hi,h]; done) | (rw [hi,hc]; exact h) | (rw [hi,hc.1,hc.2]; exact h)
structure NmOk (rg:Bool) (s:Store) (m:Names):Prop where
 at_:∀ k i,(k,i) ∈ m→i < s.nodes.size∧ndAt s i = if rg = true then .rigid k.1 k.2 else .var
 key:∀ k i j,(k,i) ∈ m→(k,j) ∈ m→i = j
theorem nmOk_add {rg:Bool} {s:Store} {m:Names} {d:Nd} (h:NmOk rg s m):NmOk rg (s.add d).1 m :=
 ⟨fun k i q=>⟨by rw [add_size]; have:=(h.at_ k i q).1; omega,by rw [ndAt_old (h.at_ k i q).1]; exact (h.at_ k i q).2⟩,h.key⟩
structure PM (rg:Bool) (s:Store) (m:Names) (x:Store × Names × Nat) (row:Bool) (E:(Bool→Nat→Tm)→Tm):Prop where
 flat:FlatS x.1
 dag:Dag x.1
 size:s.nodes.size≤x.1.nodes.size
 old:∀ i,i < s.nodes.size→ndAt x.1 i = ndAt s i
 sub:∀ e ∈ m,e ∈ x.2.1
 nm:NmOk rg x.1 x.2.1
 lt:x.2.2 < x.1.nodes.size
 den:∀ (τ:Nat→Tm) (χ:Bool→Nat→Tm),Mdl x.1 τ→(∀ k i,(k,i) ∈ x.2.1→τ i = χ k.1 k.2)→τ x.2.2 = E χ
 ex:∀ (τ:Nat→Tm) (χ:Bool→Nat→Tm),Mdl s τ→(∀ k i,(k,i) ∈ m→τ i = χ k.1 k.2)→(rg = true→∀ b n,χ b n = Tm.cs b n)→∃ τ',Mdl x.1 τ'∧(∀ i,i < s.nodes.size→τ' i = τ i)∧∀ k i,(k,i) ∈ x.2.1→τ' i = χ k.1 k.2
 srt:∀ κ,Srt s κ→(∀ k i,(k,i) ∈ m→κ i = k.1)→∃ κ',Srt x.1 κ'∧(∀ i,i < s.nodes.size→κ' i = κ i)∧(∀ k i,(k,i) ∈ x.2.1→κ' i = k.1)∧κ' x.2.2 = row
theorem PM.node {rg row:Bool} {s s1:Store} {m m1:Names} {d:Nd} {E:(Bool→Nat→Tm)→Tm} (hf:FlatS s1) (hd:Dag s1) (hz:s.nodes.size≤s1.nodes.size) (ho:∀ i,i < s.nodes.size→ndAt s1 i = ndAt s i) (hs:∀ e ∈ m,e ∈ m1) (hn:NmOk rg s1 m1)
  (hk:∀ c ∈ under d,c < s1.nodes.size)
  (hden:∀ (τ:Nat→Tm) (χ:Bool→Nat→Tm),Mdl s1 τ→(∀ k i,(k,i) ∈ m1→τ i = χ k.1 k.2)→Nok τ s1.nodes.size d→τ s1.nodes.size = E χ)
  (hmk:∀ τ:Nat→Tm,∃ t:Tm,Nok (fun i=>if i = s1.nodes.size then t else τ i) s1.nodes.size d)
  (hex:∀ (τ:Nat→Tm) (χ:Bool→Nat→Tm),Mdl s τ→(∀ k i,(k,i) ∈ m→τ i = χ k.1 k.2)→(rg = true→∀ b n,χ b n = Tm.cs b n)→∃ τ',Mdl s1 τ'∧(∀ i,i < s.nodes.size→τ' i = τ i)∧∀ k i,(k,i) ∈ m1→τ' i = χ k.1 k.2)
  (hsr:∀ κ,Srt s κ→(∀ k i,(k,i) ∈ m→κ i = k.1)→∃ κ',Srt s1 κ'∧(∀ i,i < s.nodes.size→κ' i = κ i)∧(∀ k i,(k,i) ∈ m1→κ' i = k.1)∧SrtN (fun i=>if i = s1.nodes.size then row else κ' i) s1.nodes.size d) :
  PM rg s m ((s1.add d).1,m1,(s1.add d).2) row E:=by
 refine ⟨flat_add hf d,dag_add hd hk,by rw [add_size]; omega,fun i hi=>by rw [ndAt_old (by omega)]; exact ho i hi,hs,nmOk_add hn,by rw [add_no,add_size]; omega,fun τ χ m0 hχ=>?_,fun τ χ m0 hχ hrg=>?_,fun κ k0 hκ=>?_⟩
 ·refine o0_2 ((mdl_add hf).mp m0) fun m1' n1=>?_
  exact hden τ χ m1' hχ n1
 ·refine o1_3 (hex τ χ m0 hχ hrg) fun τ' h1 h2 h3=>?_
  refine o1_1 (hmk τ') fun t ht=>?_
  have low:∀ i,i < s1.nodes.size→(if i = s1.nodes.size then t else τ' i) = τ' i:=fun i hi=>if_neg (by omega)
  refine ⟨fun i=>if i = s1.nodes.size then t else τ' i,(mdl_add hf).mpr ⟨⟨fun i hi=>?_,fun i hi=>by rw [hf.put]⟩,ht⟩,fun i hi=>?_,fun k i q=>?_⟩
  ·exact nok_congr (low i hi) (fun c hc=>low c (hd.kids i hi c hc)) (h1.ok i hi)
  ·show (if i = s1.nodes.size then t else τ' i) = τ i
   rw [low i (by omega),h2 i hi]
  ·show (if i = s1.nodes.size then t else τ' i) = _
   rw [low i (hn.at_ k i q).1]
   exact h3 k i q
 ·refine o1_4 (hsr κ k0 hκ) fun κ' h1 h2 h3 h4=>?_
  have low:∀ i,i < s1.nodes.size→(if i = s1.nodes.size then row else κ' i) = κ' i:=fun i hi=>if_neg (by omega)
  refine ⟨fun i=>if i = s1.nodes.size then row else κ' i,fun i hi=>?_,fun i hi=>?_,fun k i q=>?_,?_⟩
  ·rw [add_size] at hi
   by_cases e:i = s1.nodes.size
   ·subst e; rw [ndAt_new]; exact h4
   ·have hi':i < s1.nodes.size:=by omega
    rw [ndAt_old hi']
    exact srt_congr (low i hi') (fun c hc=>low c (hd.kids i hi' c hc)) (h1 i hi')
  ·show (if i = s1.nodes.size then row else κ' i) = κ i
   rw [low i (by omega),h2 i hi]
  ·show (if i = s1.nodes.size then row else κ' i) = _
   rw [low i (hn.at_ k i q).1]
   exact h3 k i q
  ·show (if (s1.add d).2 = s1.nodes.size then row else κ' (s1.add d).2) = row
   rw [add_no,if_pos rfl]
theorem ex_id {s:Store} {m:Names} {rg:Bool}:∀ (τ:Nat→Tm) (χ:Bool→Nat→Tm),Mdl s τ→(∀ k i,(k,i) ∈ m→τ i = χ k.1 k.2)→(rg = true→∀ b n,χ b n = Tm.cs b n)→∃ τ',Mdl s τ'∧(∀ i,i < s.nodes.size→τ' i = τ i)∧∀ k i,(k,i) ∈ m→τ' i = χ k.1 k.2 :=
 fun τ χ h1 h2 _=>⟨τ,h1,fun _ _=>rfl,h2⟩
theorem PM.leaf {rg:Bool} {s:Store} {m:Names} {d:Nd} {t:Tm} (hf:FlatS s) (hd:Dag s) (hn:NmOk rg s m) (hu:under d = []) (ht:∀ (τ:Nat→Tm) i,Nok τ i d↔τ i = t) (hs:∀ (κ:Nat→Bool) i,κ i = false→SrtN κ i d) :
  PM rg s m ((s.add d).1,m,(s.add d).2) false (fun _=>t):=by
 refine PM.node hf hd (Nat.le_refl _) (fun _ _=>rfl) (fun _ h=>h) hn (by rw [hu]; intro c hc; simp at hc) (fun τ χ _ _ h=>(ht _ _).mp h) (fun τ=>⟨t,(ht _ _).mpr (if_pos rfl)⟩) ex_id fun κ h1 h2=>⟨κ,h1,fun _ _=>rfl,h2,hs _ _ (if_pos rfl)⟩
theorem PM.seq {rg r1 r2:Bool} {s:Store} {m:Names} {x y:Store × Names × Nat} {E1 E2:(Bool→Nat→Tm)→Tm} (a:PM rg s m x r1 E1) (b:PM rg x.1 x.2.1 y r2 E2) :
  (∀ (τ:Nat→Tm) (χ:Bool→Nat→Tm),Mdl y.1 τ→(∀ k i,(k,i) ∈ y.2.1→τ i = χ k.1 k.2)→τ x.2.2 = E1 χ∧τ y.2.2 = E2 χ) ∧
  (∀ (τ:Nat→Tm) (χ:Bool→Nat→Tm),Mdl s τ→(∀ k i,(k,i) ∈ m→τ i = χ k.1 k.2)→(rg = true→∀ b n,χ b n = Tm.cs b n)→∃ τ',Mdl y.1 τ'∧(∀ i,i < s.nodes.size→τ' i = τ i)∧∀ k i,(k,i) ∈ y.2.1→τ' i = χ k.1 k.2) ∧
  (∀ κ,Srt s κ→(∀ k i,(k,i) ∈ m→κ i = k.1)→∃ κ',Srt y.1 κ'∧(∀ i,i < s.nodes.size→κ' i = κ i)∧(∀ k i,(k,i) ∈ y.2.1→κ' i = k.1)∧κ' x.2.2 = r1∧κ' y.2.2 = r2):=by
 refine ⟨fun τ χ m0 hχ=>⟨?_,b.den τ χ m0 hχ⟩,fun τ χ m0 hχ hrg=>?_,fun κ k0 hκ=>?_⟩
 ·refine a.den τ χ ⟨fun i hi=>?_,fun i hi=>by rw [a.flat.put]⟩ fun k i q=>hχ k i (b.sub _ q)
  have:=m0.ok i (Nat.lt_of_lt_of_le hi b.size)
  rw [b.old i hi] at this
  exact this
 ·refine o1_3 (a.ex τ χ m0 hχ hrg) fun τ1 h1 h2 h3=>?_
  refine o1_3 (b.ex τ1 χ h1 h3 hrg) fun τ2 g1 g2 g3=>?_
  exact ⟨τ2,g1,fun i hi=>(g2 i (Nat.lt_of_lt_of_le hi a.size)).trans (h2 i hi),g3⟩
 ·refine o1_4 (a.srt κ k0 hκ) fun κ1 h1 h2 h3 h4=>?_
  refine o1_4 (b.srt κ1 h1 h3) fun κ2 g1 g2 g3 g4=>?_
  exact ⟨κ2,g1,fun i hi=>(g2 i (Nat.lt_of_lt_of_le hi a.size)).trans (h2 i hi),g3,(g2 _ a.lt).trans h4,g4⟩
theorem PM.two {rg r1 r2 row:Bool} {s:Store} {m:Names} {x y:Store × Names × Nat} {E1 E2:(Bool→Nat→Tm)→Tm} {d:Nd} {c:Nat} (a:PM rg s m x r1 E1) (b:PM rg x.1 x.2.1 y r2 E2) (hu:under d = [x.2.2,y.2.2]) (hN:∀ (τ:Nat→Tm) i,Nok τ i d↔τ i = .nd c (τ x.2.2) (τ y.2.2))
  (hS:∀ (κ:Nat→Bool) i,κ i = row→κ x.2.2 = r1→κ y.2.2 = r2→SrtN κ i d):PM rg s m ((y.1.add d).1,y.2.1,(y.1.add d).2) row (fun χ=>.nd c (E1 χ) (E2 χ)):=by
 refine o0_3 (a.seq b) fun q1 q2 q3=>?_
 have hx:x.2.2 < y.1.nodes.size:=Nat.lt_of_lt_of_le a.lt b.size
 have hy:=b.lt
 refine PM.node b.flat b.dag (Nat.le_trans a.size b.size) (fun i hi=>(b.old i (Nat.lt_of_lt_of_le hi a.size)).trans (a.old i hi)) (fun e h=>b.sub e (a.sub e h)) b.nm (by rw [hu]; intro z hz; simp at hz; rcases hz with rfl | rfl; exact hx; exact hy)
  (fun τ χ m0 hχ h=>?_) (fun τ=>⟨.nd c (τ x.2.2) (τ y.2.2),(hN _ _).mpr ?_⟩) q2 fun κ k0 hκ=>?_
 ·refine o0_2 (q1 τ χ m0 hχ) fun e1 e2=>?_
  rw [(hN _ _).mp h,e1,e2]
 ·show (if y.1.nodes.size = y.1.nodes.size then _ else _) = Tm.nd c (if x.2.2 = y.1.nodes.size then _ else τ x.2.2) (if y.2.2 = y.1.nodes.size then _ else τ y.2.2)
  rw [if_pos rfl,if_neg (by omega),if_neg (by omega)]
 ·refine o1_5 (q3 κ k0 hκ) fun κ' h1 h2 h3 h4 h5=>?_
  refine ⟨κ',h1,h2,h3,hS _ _ (if_pos rfl) ?_ ?_⟩
  ·show (if x.2.2 = y.1.nodes.size then row else κ' x.2.2) = r1
   rw [if_neg (by omega)]; exact h4
  ·show (if y.2.2 = y.1.nodes.size then row else κ' y.2.2) = r2
   rw [if_neg (by omega)]; exact h5
theorem name_pm {rg:Bool} {s:Store} {m:Names} (hf:FlatS s) (hd:Dag s) (hn:NmOk rg s m) (b:Bool) (n:Nat):PM rg s m (nameIn s m rg b n) b (fun χ=>χ b n):=by
 unfold nameIn
 cases q:m.find? (fun x=>x.1 == (b,n)) with
 | some x =>
  have h1:=List.mem_of_find?_eq_some q
  have h2:x.1 = (b,n):=by simpa using List.find?_some q
  have h3:((b,n),x.2) ∈ m:=by rw [← h2]; exact h1
  exact ⟨hf,hd,Nat.le_refl _,fun _ _=>rfl,fun _ h=>h,hn,(hn.at_ _ _ h3).1,fun τ χ _ hχ=>hχ _ _ h3,ex_id,fun κ k0 hκ=>⟨κ,k0,fun _ _=>rfl,hκ,hκ _ _ h3⟩⟩
 | none =>
  have h1:=List.find?_eq_none.mp q
  have nin:∀ i,((b,n),i) ∉ m:=fun i z=>absurd (by simp) (h1 _ z)
  simp only []
  generalize hdd:(if rg = true then Nd.rigid b n else Nd.var) = d
  have hu:under d = []:=by rw [← hdd]; cases rg <;> rfl
  have hnew:((b,n),s.nodes.size) ∈ m ++ [((b,n),(s.add d).2)]:=List.mem_append_right _ (by simp [add_no])
  refine ⟨flat_add hf d,dag_add hd (by rw [hu]; intro c hc; simp at hc),by rw [add_size]; omega,fun i hi=>ndAt_old hi,fun e h=>List.mem_append_left _ h,⟨fun k i z=>?_,fun k i j z1 z2=>?_⟩,by rw [add_no,add_size]; omega,fun τ χ m0 hχ=>hχ _ _ hnew,fun τ χ m0 hχ hrg=>?_,fun κ k0 hκ=>?_⟩
  ·rcases List.mem_append.mp z with z | z
   ·exact (nmOk_add hn).at_ k i z
   ·simp only [List.mem_singleton,Prod.mk.injEq] at z
    (refine o0_2 z fun y14_0 y14_1=>?_; try clear z; subst y14_0; subst y14_1)
    refine ⟨by rw [add_no,add_size]; omega,?_⟩
    rw [add_no,ndAt_new,← hdd]
  ·rcases List.mem_append.mp z1 with z1 | z1 <;> rcases List.mem_append.mp z2 with z2 | z2
   ·exact hn.key k i j z1 z2
   ·simp only [List.mem_singleton,Prod.mk.injEq] at z2
    (refine o0_2 z2 fun y15_0 y15_1=>?_; try clear z2; subst y15_0; subst y15_1)
    exact absurd z1 (nin _)
   ·simp only [List.mem_singleton,Prod.mk.injEq] at z1
    (refine o0_2 z1 fun y16_0 y16_1=>?_; try clear z1; subst y16_0; subst y16_1)
    exact absurd z2 (nin _)
   ·simp only [List.mem_singleton,Prod.mk.injEq] at z1 z2
    rw [z1.2,z2.2]
  ·have low:∀ i,i < s.nodes.size→(if i = s.nodes.size then χ b n else τ i) = τ i:=fun i hi=>if_neg (by omega)
   refine ⟨fun i=>if i = s.nodes.size then χ b n else τ i,(mdl_add hf).mpr ⟨⟨fun i hi=>nok_congr (low i hi) (fun c hc=>low c (hd.kids i hi c hc)) (m0.ok i hi),fun i hi=>by rw [hf.put]⟩,?_⟩,fun i hi=>low i hi,fun k i z=>?_⟩
   ·rw [← hdd]
    cases rg with
    | false=>trivial
    | true =>
     show (if s.nodes.size = s.nodes.size then χ b n else τ s.nodes.size) = _
     rw [if_pos rfl]
     exact hrg rfl b n
   ·show (if i = s.nodes.size then χ b n else τ i) = _
    rcases List.mem_append.mp z with z | z
    ·rw [low i (hn.at_ k i z).1]
     exact hχ k i z
    ·simp only [List.mem_singleton,Prod.mk.injEq] at z
     (refine o0_2 z fun y17_0 y17_1=>?_; try clear z; subst y17_0; subst y17_1)
     rw [add_no,if_pos rfl]
  ·have low:∀ i,i < s.nodes.size→(if i = s.nodes.size then b else κ i) = κ i:=fun i hi=>if_neg (by omega)
   refine ⟨fun i=>if i = s.nodes.size then b else κ i,fun i hi=>?_,fun i hi=>low i hi,fun k i z=>?_,?_⟩
   ·rw [add_size] at hi
    by_cases e:i = s.nodes.size
    ·subst e
     rw [ndAt_new,← hdd]
     cases rg with
     | false=>trivial
     | true=>exact if_pos rfl
    ·have hi':i < s.nodes.size:=by omega
     rw [ndAt_old hi']
     exact srt_congr (low i hi') (fun c hc=>low c (hd.kids i hi' c hc)) (k0 i hi')
   ·show (if i = s.nodes.size then b else κ i) = _
    rcases List.mem_append.mp z with z | z
    ·rw [low i (hn.at_ k i z).1]
     exact hκ k i z
    ·simp only [List.mem_singleton,Prod.mk.injEq] at z
     (refine o0_2 z fun y18_0 y18_1=>?_; try clear z; subst y18_0; subst y18_1)
     rw [add_no,if_pos rfl]
   ·show (if (s.add d).2 = s.nodes.size then b else κ (s.add d).2) = b
    rw [add_no,if_pos rfl]
mutual
theorem pm_ty (rg:Bool):∀ (t:Ty) (s:Store) (m:Names),FlatS s→Dag s→NmOk rg s m→PM rg s m (putTy rg t s m) false (fun χ=>embT χ t)
 | .num,s,m,hf,hd,hn=>PM.leaf hf hd hn rfl (fun _ _=>Iff.rfl) fun _ _ h=>h
 | .bool,s,m,hf,hd,hn=>PM.leaf hf hd hn rfl (fun _ _=>Iff.rfl) fun _ _ h=>h
 | .list t,s,m,hf,hd,hn=>by
  have a:=pm_ty rg t s m hf hd hn
  simp only [putTy]
  have ha:=a.lt
  refine PM.node a.flat a.dag a.size a.old a.sub a.nm (by intro c hc; simp [under] at hc; rw [hc]; exact ha) (fun τ χ m0 hχ h=>?_) (fun τ=>⟨.nd 0 (τ (putTy rg t s m).2.2) (.lf 2),?_⟩) a.ex fun κ k0 hκ=>?_
  ·have h:τ _ = _:=h
   rw [h,a.den τ χ m0 hχ]
   rfl
  ·show (if _ = _ then _ else _) = Tm.nd 0 (if (putTy rg t s m).2.2 = (putTy rg t s m).1.nodes.size then _ else τ (putTy rg t s m).2.2) (.lf 2)
   rw [if_pos rfl,if_neg (by omega)]
  ·refine o1_4 (a.srt κ k0 hκ) fun κ' h1 h2 h3 h4=>?_
   refine ⟨κ',h1,h2,h3,if_pos rfl,?_⟩
   show (if (putTy rg t s m).2.2 = (putTy rg t s m).1.nodes.size then false else κ' (putTy rg t s m).2.2) = false
   rw [if_neg (by omega)]
   exact h4
 | .pair x y,s,m,hf,hd,hn=>by
  have a:=pm_ty rg x s m hf hd hn
  have b:=pm_ty rg y _ _ a.flat a.dag a.nm
  simp only [putTy]
  exact PM.two a b rfl (fun _ _=>Iff.rfl) fun _ _ h1 h2 h3=>⟨h1,h2,h3⟩
 | .fn x y,s,m,hf,hd,hn=>by
  have a:=pm_row rg x s m hf hd hn
  have b:=pm_row rg y _ _ a.flat a.dag a.nm
  simp only [putTy]
  exact PM.two a b rfl (fun _ _=>Iff.rfl) fun _ _ h1 h2 h3=>⟨h1,h2,h3⟩
 | .var n,s,m,hf,hd,hn=>name_pm hf hd hn false n
theorem pm_row (rg:Bool):∀ (t:Row) (s:Store) (m:Names),FlatS s→Dag s→NmOk rg s m→PM rg s m (putRow rg t s m) true (fun χ=>embR χ t)
 | .var n,s,m,hf,hd,hn=>name_pm hf hd hn true n
 | .snoc x y,s,m,hf,hd,hn=>by
  have a:=pm_row rg x s m hf hd hn
  have b:=pm_ty rg y _ _ a.flat a.dag a.nm
  simp only [putRow]
  exact PM.two a b rfl (fun _ _=>Iff.rfl) fun _ _ h1 h2 h3=>⟨h1,h2,h3⟩
end
end Mi
namespace Mi
open Rs
def Tm.sub (ρ:Bool→Nat→Tm):Tm→Tm
 | .lf c=>.lf c
 | .cs b n=>.cs b n
 | .v b n=>ρ b n
 | .nd c a b=>.nd c (a.sub ρ) (b.sub ρ)
def tre (s:Store) (κ:Nat→Bool):Nat→Nat→Tm
 | 0,i=>.v (κ (s.root i)) (s.root i)
 | h + 1,i=>match s.at_ i with
  | .var=>.v (κ (s.root i)) (s.root i)
  | .rigid b n=>.cs b n
  | .num=>.lf 0
  | .bool=>.lf 1
  | .list a=>.nd 0 (tre s κ h a) (.lf 2)
  | .pair a b=>.nd 1 (tre s κ h a) (tre s κ h b)
  | .fn a b=>.nd 2 (tre s κ h a) (tre s κ h b)
  | .snoc a b=>.nd 3 (tre s κ h a) (tre s κ h b)
def treN (s:Store) (κ:Nat→Bool) (h i:Nat):Nd→Tm
 | .var=>.v (κ (s.root i)) (s.root i)
 | .rigid b n=>.cs b n
 | .num=>.lf 0
 | .bool=>.lf 1
 | .list a=>.nd 0 (tre s κ h a) (.lf 2)
 | .pair a b=>.nd 1 (tre s κ h a) (tre s κ h b)
 | .fn a b=>.nd 2 (tre s κ h a) (tre s κ h b)
 | .snoc a b=>.nd 3 (tre s κ h a) (tre s κ h b)
theorem tre_at {s:Store} {κ:Nat→Bool} {h i:Nat} {x:Nd} (e:s.at_ i = x):tre s κ (h + 1) i = treN s κ h i x:=by
 subst e
 rfl
theorem tre_nd {s:Store} {κ:Nat→Bool} {h a b k:Nat} {x y:Tm} (h1:tre s κ h a = x) (h2:tre s κ h b = y):Tm.nd k (tre s κ h a) (tre s κ h b) = Tm.nd k x y:=by rw [h1,h2]
theorem tre_root {s:Store} {κ:Nat→Bool} {h i j:Nat} (e:s.root i = s.root j):tre s κ h i = tre s κ h j:=by
 cases h with
 | zero=>simp only [tre,e]
 | succ h=>simp only [tre,at_nd,e]
theorem tre_up {s:Store} {κ:Nat→Bool}:∀ {h h' i:Nat},FnH s h i→h≤h'→tre s κ h' i = tre s κ h i
 | 0,_,_,hf,_=>hf.elim
 | h + 1,0,_,_,hl=>by omega
 | h + 1,h' + 1,i,hf,hl=>by
  simp only [tre]
  have hf:∀ c ∈ under (s.at_ i),FnH s h c:=hf
  cases e:s.at_ i <;> simp only [] <;> rw [e] at hf <;> simp only [under,List.mem_cons,List.not_mem_nil,or_false,forall_eq_or_imp,forall_eq] at hf
  ·rw [tre_up hf (by omega)]
  all_goals rw [tre_up hf.1 (by omega),tre_up hf.2 (by omega)]
theorem root_put {s:Store} {B a:Nat} (W:WfS s B) (ha:a < s.nodes.size):s.root (s.put.getD a a) = s.root a:=by
 refine o1_2 (W.root ha) fun k h1 _=>?_
 generalize hr:s.root a = r at h1
 cases h1 with
 | here h=>rw [h,hr]
 | step h1 h2 h3 =>
  rw [h1]
  exact W.root_of (by rw [← h1]; exact W.inb a ha) h3
theorem kid_pair {x y:Nd} {k:List (Nat × Nat)} (h:alike x y = some k):∀ c ∈ under x,∃ c' ∈ under y,(c,c') ∈ k:=by
 intro c hc
 cases al_of h with
 | rigid=>exact nomatch hc
 | num=>exact nomatch hc
 | bool=>exact nomatch hc
 | list=>exact ⟨_,List.mem_cons_self,by rw [List.mem_singleton.mp hc]; exact List.mem_cons_self⟩
 | _ =>
  rcases List.mem_cons.mp hc with e | e
  ·exact ⟨_,List.mem_cons_self,by rw [e]; exact List.mem_cons_self⟩
  ·exact ⟨_,List.mem_cons_of_mem _ List.mem_cons_self,by rw [List.mem_singleton.mp e]; exact List.mem_cons_of_mem _ List.mem_cons_self⟩
theorem FlatS.wf {s:Store} (h:FlatS s):WfS s 0:=by
 refine ⟨h.size,fun i hi=>by rw [h.put]; exact hi,fun i hi=>⟨i,0,.here (h.put i),Nat.le_refl _,hi⟩,?_⟩
 unfold nrs
 rw [Nat.zero_add,List.countP_eq_length.mpr fun i _=>by rw [h.put]; simp,List.length_range]
theorem FlatS.cmp {s:Store} (h:FlatS s) (l:List (Nat × Nat)):Cmp s l:=fun a ha=>by
 have e:s.at_ a = ndAt s a:=by rw [at_nd,h.root]
 rw [e]
 cases q:Rs.isVar (ndAt s a) with
 | true=>exact .inl rfl
 | false=>exact .inr (alike_self (fun a=>.root rfl) q)
theorem all_fin {s s':Store} {l:List (Nat × Nat)} (hf:FlatS s) (hd:Dag s) (D:Done s l s') (hl:∀ p ∈ l,(∃ h,FnH s' h p.1)∧∃ h,FnH s' h p.2):∀ n a,a < n→a < s.nodes.size→∃ h,FnH s' h a
 | 0,a,h,_=>by omega
 | n + 1,a,h,ha=>by
  (refine o0_8 (id D) fun y2_0 hn hc hm hr hp hF hG=>?_; refine o1_1 y2_0 fun B W=>?_)
  by_cases e:s'.put.getD a a = a
  ·have ha':a < s'.nodes.size:=by rw [hn]; exact ha
   have er:s'.root a = a:=W.root_of ha' (.here e)
   have ea:s'.at_ a = ndAt s a:=by rw [at_nd,er]; unfold ndAt; rw [hn]
   have kids:∀ c ∈ under (s'.at_ a),∃ h,FnH s' h c:=fun c hc=>by
    rw [ea] at hc
    have:=hd a ha c hc
    exact all_fin hf hd D hl n c (by omega) (by omega)
   refine o1_1 (fn_bound _ kids) fun m hm=>?_
   exact ⟨m + 1,hm⟩
  ·refine hF (fun a=>∃ h,FnH s' h a) (fun a b _ _ e ⟨h,q⟩=>⟨h,q.root e⟩) (fun a ha ⟨h,q⟩ c hc=>?_) hl a ha (by rw [hf.put]; exact e)
   have hnd:ndAt s' a = ndAt s a:=by unfold ndAt; rw [hn]
   rcases hc':h with _ | h
   ·rw [hc'] at q; exact q.elim
   ·rw [hc'] at q
    rcases D.2.2.1 a (by rw [hn]; exact ha) with z | ⟨k,z,r⟩
    ·rw [hnd] at z
     generalize ndAt s a = x at z hc
     cases x <;> simp [Rs.isVar] at z
     simp [under] at hc
    ·rw [hnd] at z
     refine o1_2 (kid_pair z c hc) fun c' h1 h2=>?_
     exact ⟨h,(q c' h1).root (r _ h2).nil.symm⟩
theorem mdl_tre {s:Store} {B H:Nat} (κ:Nat→Bool) (W:WfS s B) (hK:KidsIn s) (hc:Cmp s []) (hf:∀ a,a < s.nodes.size→FnH s H a):Mdl s (tre s κ H):=by
 refine ⟨fun a ha=>?_,fun a ha=>tre_root (root_put W ha).symm⟩
 rcases hc a ha with q | ⟨k,q,r⟩
 ·generalize ndAt s a = x at q
  cases x <;> simp [Rs.isVar] at q
  trivial
 ·have h1:=hf a ha
  cases H with
  | zero=>exact h1.elim
  | succ h =>
   have h1:∀ c ∈ under (s.at_ a),FnH s h c:=h1
   have up:∀ c ∈ under (s.at_ a),tre s κ (h + 1) c = tre s κ h c:=fun c hc=>tre_up (h1 c hc) (by omega)
   have eq:∀ p ∈ k,p.2 ∈ under (s.at_ a)→tre s κ (h + 1) p.1 = tre s κ h p.2:=fun p hp hu=>by rw [tre_root (r p hp).nil,up _ hu]
   have unf:∀ y,s.at_ a = y→tre s κ (h + 1) a = treN s κ h a y:=fun y e=>tre_at e
   generalize s.at_ a = y at q unf eq
   generalize ndAt s a = x at q
   have unf:=unf y rfl
   clear up h1
   cases al_of q with
   | rigid=>exact unf
   | num=>exact unf
   | bool=>exact unf
   | list =>
    refine unf.trans (congrArg (Tm.nd 0 · _) ?_)
    exact (eq (_,_) List.mem_cons_self List.mem_cons_self).symm
   | _ =>
    refine unf.trans (tre_nd ?_ ?_)
    ·exact (eq (_,_) List.mem_cons_self List.mem_cons_self).symm
    ·exact (eq (_,_) (List.mem_cons_of_mem _ List.mem_cons_self) (List.mem_cons_of_mem _ List.mem_cons_self)).symm
theorem mdl_factor {s:Store} {B:Nat} {τ:Nat→Tm} (κ:Nat→Bool) (W:WfS s B) (hK:KidsIn s) (m:Mdl s τ):∀ (h i:Nat),i < s.nodes.size→FnH s h i→τ i = (tre s κ h i).sub fun _ n=>τ n
 | 0,i,_,hf=>hf.elim
 | h + 1,i,hi,hf=>by
  have hr:=W.root_lt hi
  have ok:=m.ok _ hr
  rw [← at_nd] at ok
  have kid:∀ c ∈ under (s.at_ i),τ c = (tre s κ h c).sub fun _ n=>τ n:=fun c hc=>mdl_factor κ W hK m h c (by rw [at_nd] at hc; exact hK _ hr c hc) (hf c hc)
  rw [m.root W hi]
  simp only [tre]
  generalize s.at_ i = x at ok kid
  cases x <;> simp only [Nok] at ok <;> simp only [Tm.sub] <;> simp only [under,List.mem_cons,List.not_mem_nil,or_false,forall_eq_or_imp,forall_eq] at kid <;> first | exact ok | (rw [ok,kid]; done) | rw [ok,kid.1,kid.2]
theorem mdl_sub {s:Store} {τ:Nat→Tm} (ρ:Bool→Nat→Tm) (m:Mdl s τ):Mdl s fun i=>(τ i).sub ρ:=by
 refine ⟨fun i hi=>?_,fun i hi=>by show (τ i).sub ρ = (τ _).sub ρ; rw [m.put i hi]⟩
 have ok:=m.ok i hi
 generalize ndAt s i = x at ok
 cases x <;> simp only [Nok] at ok ⊢ <;> (try rw [ok]) <;> rfl
mutual
def invT:Tm→Ty
 | .lf 1=>.bool
 | .lf _=>.num
 | .nd 0 a _=>.list (invT a)
 | .nd 1 a b=>.pair (invT a) (invT b)
 | .nd 2 a b=>.fn (invR a) (invR b)
 | .nd _ _ _=>.num
 | .v _ n=>.var n
 | .cs _ n=>.var n
def invR:Tm→Row
 | .nd 3 a b=>.snoc (invR a) (invT b)
 | .nd _ _ _=>.var 0
 | .v _ n=>.var n
 | .cs _ n=>.var n
 | .lf _=>.var 0
end
def LeafF (L:Bool→Nat→Tm):Prop:=L = Tm.v∨L = Tm.cs
mutual
theorem inv_embT {L:Bool→Nat→Tm} (hL:LeafF L):∀ t:Ty,invT (embT L t) = t
 | .num=>rfl
 | .bool=>rfl
 | .list t=>by simp only [embT,invT,inv_embT hL t]
 | .pair a b=>by simp only [embT,invT,inv_embT hL a,inv_embT hL b]
 | .fn a b=>by simp only [embT,invT,inv_embR hL a,inv_embR hL b]
 | .var n=>by rcases hL with rfl | rfl <;> rfl
theorem inv_embR {L:Bool→Nat→Tm} (hL:LeafF L):∀ t:Row,invR (embR L t) = t
 | .var n=>by rcases hL with rfl | rfl <;> rfl
 | .snoc a b=>by simp only [embR,invR,inv_embR hL a,inv_embT hL b]
end
theorem embR_inj {L:Bool→Nat→Tm} (hL:LeafF L) {a b:Row} (h:embR L a = embR L b):a = b:=by rw [← inv_embR hL a,← inv_embR hL b,h]
def sbs (χ:Bool→Nat→Tm) (f:Nat→Ty) (g:Nat→Row):Bool→Nat→Tm
 | true,n=>embR χ (g n)
 | false,n=>embT χ (f n)
mutual
theorem put_embT (χ:Bool→Nat→Tm) (f:Nat→Ty) (g:Nat→Row):∀ t:Ty,embT χ (t.put f g) = embT (sbs χ f g) t
 | .num=>rfl
 | .bool=>rfl
 | .list t=>by simp only [Ty.put,embT,put_embT χ f g t]
 | .pair a b=>by simp only [Ty.put,embT,put_embT χ f g a,put_embT χ f g b]
 | .fn a b=>by simp only [Ty.put,embT,put_embR χ f g a,put_embR χ f g b]
 | .var n=>rfl
theorem put_embR (χ:Bool→Nat→Tm) (f:Nat→Ty) (g:Nat→Row):∀ t:Row,embR χ (t.put f g) = embR (sbs χ f g) t
 | .var n=>rfl
 | .snoc a b=>by simp only [Row.put,embR,put_embR χ f g a,put_embT χ f g b]
end
mutual
theorem sub_embT (χ ρ:Bool→Nat→Tm):∀ t:Ty,(embT χ t).sub ρ = embT (fun b n=>(χ b n).sub ρ) t
 | .num=>rfl
 | .bool=>rfl
 | .list t=>by simp only [embT,Tm.sub,sub_embT χ ρ t]
 | .pair a b=>by simp only [embT,Tm.sub,sub_embT χ ρ a,sub_embT χ ρ b]
 | .fn a b=>by simp only [embT,Tm.sub,sub_embR χ ρ a,sub_embR χ ρ b]
 | .var n=>rfl
theorem sub_embR (χ ρ:Bool→Nat→Tm):∀ t:Row,(embR χ t).sub ρ = embR (fun b n=>(χ b n).sub ρ) t
 | .var n=>rfl
 | .snoc a b=>by simp only [embR,Tm.sub,sub_embR χ ρ a,sub_embT χ ρ b]
end
mutual
theorem put_invT {L χ:Bool→Nat→Tm} (hL:LeafF L):∀ (t q:Ty),embT χ t = embT L q→t.put (fun n=>invT (χ false n)) (fun n=>invR (χ true n)) = q
 | .var n,q,h=>by
  simp only [embT] at h
  simp only [Ty.put,h,inv_embT hL]
 | .num,q,h=>by cases q <;> simp only [embT] at h <;> first | rfl | (exact absurd h (by decide)) | (cases h) | (rcases hL with rfl | rfl <;> cases h)
 | .bool,q,h=>by cases q <;> simp only [embT] at h <;> first | rfl | (exact absurd h (by decide)) | (cases h) | (rcases hL with rfl | rfl <;> cases h)
 | .list t,q,h=>by
  cases q with
  | list q=>simp only [embT,Tm.nd.injEq] at h; simp only [Ty.put,put_invT hL t q h.2.1]
  | var n=>simp only [embT] at h; rcases hL with rfl | rfl <;> cases h
  | _=>simp only [embT] at h; first | cases h | (simp only [Tm.nd.injEq] at h; exact absurd h.1 (by decide))
 | .pair a b,q,h=>by
  cases q with
  | pair x y=>simp only [embT,Tm.nd.injEq] at h; simp only [Ty.put,put_invT hL a x h.2.1,put_invT hL b y h.2.2]
  | var n=>simp only [embT] at h; rcases hL with rfl | rfl <;> cases h
  | _=>simp only [embT] at h; first | cases h | (simp only [Tm.nd.injEq] at h; exact absurd h.1 (by decide))
 | .fn a b,q,h=>by
  cases q with
  | fn x y=>simp only [embT,Tm.nd.injEq] at h; simp only [Ty.put,put_invR hL a x h.2.1,put_invR hL b y h.2.2]
  | var n=>simp only [embT] at h; rcases hL with rfl | rfl <;> cases h
  | _=>simp only [embT] at h; first | cases h | (simp only [Tm.nd.injEq] at h; exact absurd h.1 (by decide))
theorem put_invR {L χ:Bool→Nat→Tm} (hL:LeafF L):∀ (t q:Row),embR χ t = embR L q→t.put (fun n=>invT (χ false n)) (fun n=>invR (χ true n)) = q
 | .var n,q,h=>by
  simp only [embR] at h
  simp only [Row.put,h,inv_embR hL]
 | .snoc a b,q,h=>by
  cases q with
  | snoc x y=>simp only [embR,Tm.nd.injEq] at h; simp only [Row.put,put_invR hL a x h.2.1,put_invT hL b y h.2.2]
  | var n=>simp only [embR] at h; rcases hL with rfl | rfl <;> cases h
end
end Mi
namespace Mi
open Rs
mutual
def RT (s:Store):Ty→Nat→Prop
 | .num,i=>s.at_ i = .num
 | .bool,i=>s.at_ i = .bool
 | .list t,i=>∃ a,s.at_ i = .list a∧RT s t a
 | .pair a b,i=>∃ x y,s.at_ i = .pair x y∧RT s a x∧RT s b y
 | .fn a b,i=>∃ x y,s.at_ i = .fn x y∧RR s a x∧RR s b y
 | .var n,i=>s.at_ i = .var∧s.root i = n
def RR (s:Store):Row→Nat→Prop
 | .var n,i=>s.at_ i = .var∧s.root i = n
 | .snoc a b,i=>∃ x y,s.at_ i = .snoc x y∧RR s a x∧RT s b y
end
def NoRig (s:Store):Prop:=∀ i b n,ndAt s i≠.rigid b n
theorem norig_add {s:Store} {d:Nd} (h:NoRig s) (hd:∀ b n,d≠.rigid b n):NoRig (s.add d).1:=fun i b n q=>by
 by_cases e:i < s.nodes.size
 ·rw [ndAt_old e] at q; exact h i b n q
 ·by_cases e2:i = s.nodes.size
  ·subst e2; rw [ndAt_new] at q; exact hd b n q
  ·unfold ndAt at q
   rw [Array.getD_eq_getD_getElem?,Array.getElem?_eq_none (by rw [add_size]; omega)] at q
   cases q
theorem norig_name {s:Store} {m:Names} (h:NoRig s) (b:Bool) (n:Nat):NoRig (nameIn s m false b n).1:=by
 unfold nameIn
 split
 ·exact h
 ·exact norig_add h (by intro _ _ q; cases q)
mutual
theorem norig_ty:∀ (t:Ty) (s:Store) (m:Names),NoRig s→NoRig (putTy false t s m).1
 | .num,s,m,h=>norig_add h (by intro _ _ q; cases q)
 | .bool,s,m,h=>norig_add h (by intro _ _ q; cases q)
 | .list t,s,m,h=>norig_add (norig_ty t s m h) (by intro _ _ q; cases q)
 | .pair a b,s,m,h=>norig_add (norig_ty b _ _ (norig_ty a s m h)) (by intro _ _ q; cases q)
 | .fn a b,s,m,h=>norig_add (norig_row b _ _ (norig_row a s m h)) (by intro _ _ q; cases q)
 | .var n,s,m,h=>norig_name h false n
theorem norig_row:∀ (t:Row) (s:Store) (m:Names),NoRig s→NoRig (putRow false t s m).1
 | .var n,s,m,h=>norig_name h true n
 | .snoc a b,s,m,h=>norig_add (norig_ty b _ _ (norig_row a s m h)) (by intro _ _ q; cases q)
end
def Rd (s:Store) (κ:Nat→Bool) (h i:Nat):Prop :=
 (κ i = false→∃ t,RT s t i∧tre s κ h i = embT Tm.v t∧hT t≤h)∧(κ i = true→∃ r,RR s r i∧tre s κ h i = embR Tm.v r∧hR r≤h)
theorem rd_f {s:Store} {κ:Nat→Bool} {h i:Nat} (q:κ i = false) (t:Ty) (a:RT s t i) (b:tre s κ h i = embT Tm.v t) (c:hT t≤h):Rd s κ h i :=
 ⟨fun _=>⟨t,a,b,c⟩,fun z=>absurd (q.symm.trans z) Bool.false_ne_true⟩
theorem rd_t {s:Store} {κ:Nat→Bool} {h i:Nat} (q:κ i = true) (t:Row) (a:RR s t i) (b:tre s κ h i = embR Tm.v t) (c:hR t≤h):Rd s κ h i :=
 ⟨fun z=>absurd (z.symm.trans q) Bool.false_ne_true,fun _=>⟨t,a,b,c⟩⟩
theorem read_ok {s:Store} {B:Nat} {κ:Nat→Bool} (W:WfS s B) (hK:KidsIn s) (hS:Srt s κ) (hκ:∀ a,κ a = κ (s.root a)) (hNR:NoRig s):∀ (h i:Nat),i < s.nodes.size→FnH s h i →
  (κ i = false→∃ t,RT s t i∧tre s κ h i = embT Tm.v t∧hT t≤h)∧(κ i = true→∃ r,RR s r i∧tre s κ h i = embR Tm.v r∧hR r≤h)
 | 0,i,_,hf=>hf.elim
 | h + 1,i,hi,hf=>by
  have hr:=W.root_lt hi
  have srt:∀ x,s.at_ i = x→SrtN κ (s.root i) x:=fun x e=>by rw [← e,at_nd]; exact hS _ hr
  have rec_:∀ c ∈ under (s.at_ i),Rd s κ h c:=fun c hc=>read_ok W hK hS hκ hNR h c (by rw [at_nd] at hc; exact hK _ hr c hc) (hf c hc)
  have ek:=hκ i
  show Rd s κ (h + 1) i
  cases e:s.at_ i with
  | var =>
   cases q:κ i with
   | false=>exact rd_f q (.var (s.root i)) ⟨e,rfl⟩ ((tre_at e).trans (congrArg (Tm.v · _) (ek.symm.trans q))) (Nat.le_add_left 1 h)
   | true=>exact rd_t q (.var (s.root i)) ⟨e,rfl⟩ ((tre_at e).trans (congrArg (Tm.v · _) (ek.symm.trans q))) (Nat.le_add_left 1 h)
  | rigid b n=>exact absurd e (hNR (s.root i) b n)
  | num=>exact rd_f (ek.trans (srt _ e)) .num e (tre_at e) (Nat.le_add_left 1 h)
  | bool=>exact rd_f (ek.trans (srt _ e)) .bool e (tre_at e) (Nat.le_add_left 1 h)
  | list a =>
   have srt:=srt _ e
   rw [e] at rec_
   refine o1_3 ((rec_ a (.head _)).1 srt.2) fun t h1 h2 h3=>?_
   exact rd_f (ek.trans srt.1) (.list t) ⟨a,e,h1⟩ ((tre_at e).trans (congrArg (Tm.nd 0 · (.lf 2)) h2)) (Nat.succ_le_succ h3)
  | pair a b =>
   have srt:=srt _ e
   rw [e] at rec_
   refine o1_3 ((rec_ a (.head _)).1 srt.2.1) fun t h1 h2 h3=>?_
   refine o1_3 ((rec_ b (.tail _ (.head _))).1 srt.2.2) fun u g1 g2 g3=>?_
   exact rd_f (ek.trans srt.1) (.pair t u) ⟨a,b,e,h1,g1⟩ ((tre_at e).trans (tre_nd h2 g2)) (Nat.succ_le_succ (Nat.max_le.2 ⟨h3,g3⟩))
  | fn a b =>
   have srt:=srt _ e
   rw [e] at rec_
   refine o1_3 ((rec_ a (.head _)).2 srt.2.1) fun t h1 h2 h3=>?_
   refine o1_3 ((rec_ b (.tail _ (.head _))).2 srt.2.2) fun u g1 g2 g3=>?_
   exact rd_f (ek.trans srt.1) (.fn t u) ⟨a,b,e,h1,g1⟩ ((tre_at e).trans (tre_nd h2 g2)) (Nat.succ_le_succ (Nat.max_le.2 ⟨h3,g3⟩))
  | snoc a b =>
   have srt:=srt _ e
   rw [e] at rec_
   refine o1_3 ((rec_ a (.head _)).2 srt.2.1) fun t h1 h2 h3=>?_
   refine o1_3 ((rec_ b (.tail _ (.head _))).1 srt.2.2) fun u g1 g2 g3=>?_
   exact rd_t (ek.trans srt.1) (.snoc t u) ⟨a,b,e,h1,g1⟩ ((tre_at e).trans (tre_nd h2 g2)) (Nat.succ_le_succ (Nat.max_le.2 ⟨h3,g3⟩))
inductive WQ (s:Store):Nat→Nat→Prop
 | leaf {i:Nat} {x:Nd}:s.at_ i = x→(x = .num∨x = .bool∨x = .var)→WQ s i 1
 | list {i a n:Nat}:s.at_ i = .list a→WQ s a n→WQ s i (1 + n)
 | pair {i a b n m:Nat}:s.at_ i = .pair a b→WQ s a n→WQ s b m→WQ s i (1 + n + m)
 | fn {i a b n m:Nat}:s.at_ i = .fn a b→WQ s a n→WQ s b m→WQ s i (1 + n + m)
 | snoc {i a b n m:Nat}:s.at_ i = .snoc a b→WQ s a n→WQ s b m→WQ s i (n + m)
theorem WQ.root {s:Store} {i j n:Nat} (h:WQ s i n) (e:s.root i = s.root j):WQ s j n:=by
 have ea:s.at_ j = s.at_ i:=by rw [at_nd,at_nd,e]
 cases h with
 | leaf h1 h2=>exact .leaf (ea.trans h1) h2
 | list h1 h2=>exact .list (ea.trans h1) h2
 | pair h1 h2 h3=>exact .pair (ea.trans h1) h2 h3
 | fn h1 h2 h3=>exact .fn (ea.trans h1) h2 h3
 | snoc h1 h2 h3=>exact .snoc (ea.trans h1) h2 h3
def WQI (s:Store) (n:Nat):Nd→Prop
 | .list a=>∃ k,WQ s a k∧1 + k = n
 | .pair a b=>∃ k m,WQ s a k∧WQ s b m∧1 + k + m = n
 | .fn a b=>∃ k m,WQ s a k∧WQ s b m∧1 + k + m = n
 | .snoc a b=>∃ k m,WQ s a k∧WQ s b m∧k + m = n
 | _=>1 = n
theorem WQ.inv {s:Store} {i n:Nat} (h:WQ s i n) {x:Nd} (q:s.at_ i = x):WQI s n x:=by
 subst q
 cases h with
 | leaf e hx=>rw [e]; rcases hx with rfl | rfl | rfl <;> exact rfl
 | list e a=>rw [e]; exact ⟨_,a,rfl⟩
 | pair e a b=>rw [e]; exact ⟨_,_,a,b,rfl⟩
 | fn e a b=>rw [e]; exact ⟨_,_,a,b,rfl⟩
 | snoc e a b=>rw [e]; exact ⟨_,_,a,b,rfl⟩
theorem WQ.uniq {s:Store} {i n:Nat} (h:WQ s i n):∀ {m:Nat},WQ s i m→n = m:=by
 induction h with
 | leaf e hx=>intro m k; have q:=k.inv e; rcases hx with rfl | rfl | rfl <;> exact q
 | list e _ ih=>intro m k; (refine o1_2 (k.inv e) fun _ w q=>?_); rw [ih w]; exact q
 | pair e _ _ i1 i2=>intro m k; (refine o2_3 (k.inv e) fun _ _ w w2 q=>?_); rw [i1 w,i2 w2]; exact q
 | fn e _ _ i1 i2=>intro m k; (refine o2_3 (k.inv e) fun _ _ w w2 q=>?_); rw [i1 w,i2 w2]; exact q
 | snoc e _ _ i1 i2=>intro m k; (refine o2_3 (k.inv e) fun _ _ w w2 q=>?_); rw [i1 w,i2 w2]; exact q
mutual
theorem wq_ty {s:Store}:∀ (t:Ty) (i:Nat),RT s t i→WQ s i t.weight
 | .num,i,h=>.leaf h (.inl rfl)
 | .bool,i,h=>.leaf h (.inr (.inl rfl))
 | .list t,i,⟨a,h2,h3⟩=>.list h2 (wq_ty t a h3)
 | .pair a b,i,⟨x,y,h3,h4,h5⟩=>.pair h3 (wq_ty a x h4) (wq_ty b y h5)
 | .fn a b,i,⟨x,y,h3,h4,h5⟩=>.fn h3 (wq_row a x h4) (wq_row b y h5)
 | .var n,i,h=>.leaf h.1 (.inr (.inr rfl))
theorem wq_row {s:Store}:∀ (t:Row) (i:Nat),RR s t i→WQ s i t.weight
 | .var n,i,h=>.leaf h.1 (.inr (.inr rfl))
 | .snoc a b,i,⟨x,y,h3,h4,h5⟩=>.snoc h3 (wq_row a x h4) (wq_ty b y h5)
end
def RightQ (s:Store) (w:Array (Option Nat)):Prop:=∀ k n,w.getD k none = some n→WQ s k n
theorem RightQ.set {s:Store} {w:Array (Option Nat)} (h:RightQ s w) {i n:Nat} (hn:WQ s i n):RightQ s (w.setIfInBounds i (some n)):=fun k m e=>by
 rw [Array.getD_eq_getD_getElem?,Array.getElem?_setIfInBounds] at e
 split at e
 ·rename_i hik
  split at e
  ·simp only [Option.getD_some,Option.some.injEq] at e
   rw [← hik,← e]
   exact hn
  ·simp at e
 ·exact h k m (by rw [Array.getD_eq_getD_getElem?]; exact e)
theorem weigh_at {s:Store} {f i:Nat} {w:Array (Option Nat)} {x:Nd} (e:s.at_ (s.root i) = x) (q:w.getD (s.root i) none = none) :
  weigh s (f + 1) w i = (((under x).foldl (wfold s f) (w,ownOf x)).1.setIfInBounds (s.root i) (some ((under x).foldl (wfold s f) (w,ownOf x)).2),((under x).foldl (wfold s f) (w,ownOf x)).2):=by
 subst e
 show (match w.getD (s.root i) none with | some n=>_ | none=>_) = _
 rw [q]
 cases s.at_ (s.root i) <;> rfl
theorem weigh_had {s:Store} {f i n:Nat} {w:Array (Option Nat)} (q:w.getD (s.root i) none = some n):weigh s (f + 1) w i = (w,n):=by
 show (match w.getD (s.root i) none with | some n=>_ | none=>_) = _
 rw [q]
theorem weigh_q {s:Store} (rr:∀ a,s.root (s.root a) = s.root a) {f i N:Nat} {w:Array (Option Nat)} {x:Nd} (e:s.at_ i = x) (hN:WQ s i N) (hw:RightQ s w)
  (hk:((under x).foldl (wfold s f) (w,ownOf x)).2 = N∧RightQ s ((under x).foldl (wfold s f) (w,ownOf x)).1):(weigh s (f + 1) w i).2 = N∧RightQ s (weigh s (f + 1) w i).1:=by
 have hN':WQ s (s.root i) N:=hN.root (rr i).symm
 cases q:w.getD (s.root i) none with
 | some n=>rw [weigh_had q]; exact ⟨(hw _ n q).uniq hN',hw⟩
 | none =>
  have e':s.at_ (s.root i) = x:=by rw [at_nd,rr,← at_nd]; exact e
  rw [weigh_at e' q]
  exact ⟨hk.1,hk.2.set (hk.1.symm ▸ hN')⟩
theorem weigh_q2 {s:Store} (rr:∀ a,s.root (s.root a) = s.root a) {f i N a b n m:Nat} {w:Array (Option Nat)} {x:Nd} (e:s.at_ i = x) (hu:under x = [a,b]) (hN:WQ s i N) (hw:RightQ s w)
  (k:(weigh s f w a).2 = n∧RightQ s (weigh s f w a).1) (k2:(weigh s f (weigh s f w a).1 b).2 = m∧RightQ s (weigh s f (weigh s f w a).1 b).1) (hs:ownOf x + n + m = N):(weigh s (f + 1) w i).2 = N∧RightQ s (weigh s (f + 1) w i).1:=by
 refine weigh_q rr e hN hw ?_
 rw [hu]
 exact ⟨by rw [← hs,← k.1,← k2.1]; rfl,k2.2⟩
theorem mxl {a b f:Nat} (h:max a b + 1≤f + 1):a≤f:=Nat.le_trans (Nat.le_max_left a b) (Nat.le_of_succ_le_succ h)
theorem mxr {a b f:Nat} (h:max a b + 1≤f + 1):b≤f:=Nat.le_trans (Nat.le_max_right a b) (Nat.le_of_succ_le_succ h)
theorem ht_0 {t:Ty} {P:Prop} (h:hT t≤0):P:=absurd (Nat.le_trans (ht_w t).2 h) (Nat.not_succ_le_zero 0)
theorem hr_0 {t:Row} {P:Prop} (h:hR t≤0):P:=absurd (Nat.le_trans (hr_w t).2 h) (Nat.not_succ_le_zero 0)
mutual
theorem weighq_ty {s:Store} (rr:∀ a,s.root (s.root a) = s.root a):∀ (t:Ty) (f i:Nat) (w:Array (Option Nat)),hT t≤f→RT s t i→RightQ s w→(weigh s f w i).2 = t.weight∧RightQ s (weigh s f w i).1
 | t,0,i,w,h,_,_=>ht_0 h
 | .num,f + 1,i,w,h,d,hw=>weigh_q rr (x:=.num) d (wq_ty _ _ d) hw ⟨rfl,hw⟩
 | .bool,f + 1,i,w,h,d,hw=>weigh_q rr (x:=.bool) d (wq_ty _ _ d) hw ⟨rfl,hw⟩
 | .var n,f + 1,i,w,h,d,hw=>weigh_q rr (x:=.var) d.1 (wq_ty (.var n) i d) hw ⟨rfl,hw⟩
 | .list t,f + 1,i,w,h,d,hw=>by
  refine o1_2 (id d) fun a h2 h3=>?_
  have k:=weighq_ty rr t f a w (Nat.le_of_succ_le_succ h) h3 hw
  exact weigh_q rr h2 (wq_ty (.list t) i d) hw ⟨congrArg (1 + ·) k.1,k.2⟩
 | .pair t u,f + 1,i,w,h,d,hw=>by
  refine o2_3 (id d) fun x y h3 h4 h5=>?_
  have k:=weighq_ty rr t f x w (mxl h) h4 hw
  exact weigh_q2 rr h3 rfl (wq_ty (.pair t u) i d) hw k (weighq_ty rr u f y _ (mxr h) h5 k.2) rfl
 | .fn t u,f + 1,i,w,h,d,hw=>by
  refine o2_3 (id d) fun x y h3 h4 h5=>?_
  have k:=weighq_row rr t f x w (mxl h) h4 hw
  exact weigh_q2 rr h3 rfl (wq_ty (.fn t u) i d) hw k (weighq_row rr u f y _ (mxr h) h5 k.2) rfl
theorem weighq_row {s:Store} (rr:∀ a,s.root (s.root a) = s.root a):∀ (t:Row) (f i:Nat) (w:Array (Option Nat)),hR t≤f→RR s t i→RightQ s w→(weigh s f w i).2 = t.weight∧RightQ s (weigh s f w i).1
 | t,0,i,w,h,_,_=>hr_0 h
 | .var n,f + 1,i,w,h,d,hw=>weigh_q rr (x:=.var) d.1 (wq_row (.var n) i d) hw ⟨rfl,hw⟩
 | .snoc t u,f + 1,i,w,h,d,hw=>by
  refine o2_3 (id d) fun x y h3 h4 h5=>?_
  have k:=weighq_row rr t f x w (mxl h) h4 hw
  exact weigh_q2 rr h3 rfl (wq_row (.snoc t u) i d) hw k (weighq_ty rr u f y _ (mxr h) h5 k.2) (congrArg (· + _) (Nat.zero_add _))
end
def tyO (s:Store) (f:Nat) (m:Met) (i:Nat):Nd→Met × Ty
 | .num=>(m,.num)
 | .bool=>(m,.bool)
 | .list a=>((tyOff s f m a).1,.list (tyOff s f m a).2)
 | .pair a b=>((tyOff s f (tyOff s f m a).1 b).1,.pair (tyOff s f m a).2 (tyOff s f (tyOff s f m a).1 b).2)
 | .fn a b=>((rowOff s f (rowOff s f m a).1 b).1,.fn (rowOff s f m a).2 (rowOff s f (rowOff s f m a).1 b).2)
 | _=>(⟨m.rows,(metNo m.types (s.root i)).1⟩,.var (metNo m.types (s.root i)).2)
def rowO (s:Store) (f:Nat) (m:Met) (i:Nat):Nd→Met × Row
 | .snoc a b=>((tyOff s f (rowOff s f m a).1 b).1,.snoc (rowOff s f m a).2 (tyOff s f (rowOff s f m a).1 b).2)
 | _=>(⟨(metNo m.rows (s.root i)).1,m.types⟩,.var (metNo m.rows (s.root i)).2)
theorem tyO_at {s:Store} {f i:Nat} {m:Met} {x:Nd} (h:s.at_ i = x):tyOff s (f + 1) m i = tyO s f m i x:=by
 subst h
 rfl
theorem rowO_at {s:Store} {f i:Nat} {m:Met} {x:Nd} (h:s.at_ i = x):rowOff s (f + 1) m i = rowO s f m i x:=by
 subst h
 rfl
mutual
theorem offq_ty {s:Store}:∀ (t:Ty) (f i:Nat) (m:Met),hT t≤f→RT s t i→tyOff s f m i = nTy m t
 | t,0,i,m,h,_=>ht_0 h
 | .num,f + 1,i,m,h,d=>tyO_at d
 | .bool,f + 1,i,m,h,d=>tyO_at d
 | .var n,f + 1,i,m,h,d=>by rw [tyO_at d.1,← d.2]; rfl
 | .list t,f + 1,i,m,h,d=>by
  refine o1_2 d fun a h2 h3=>?_
  refine (tyO_at h2).trans (?_:((tyOff s f m a).1,Ty.list (tyOff s f m a).2) = _)
  rw [offq_ty t f a m (Nat.le_of_succ_le_succ h) h3]
  rfl
 | .pair t u,f + 1,i,m,h,d=>by
  refine o2_3 d fun x y h2 h3 h4=>?_
  refine (tyO_at h2).trans (?_:((tyOff s f (tyOff s f m x).1 y).1,Ty.pair (tyOff s f m x).2 (tyOff s f (tyOff s f m x).1 y).2) = _)
  rw [offq_ty t f x m (mxl h) h3,offq_ty u f y _ (mxr h) h4]
  rfl
 | .fn t u,f + 1,i,m,h,d=>by
  refine o2_3 d fun x y h2 h3 h4=>?_
  refine (tyO_at h2).trans (?_:((rowOff s f (rowOff s f m x).1 y).1,Ty.fn (rowOff s f m x).2 (rowOff s f (rowOff s f m x).1 y).2) = _)
  rw [offq_row t f x m (mxl h) h3,offq_row u f y _ (mxr h) h4]
  rfl
theorem offq_row {s:Store}:∀ (t:Row) (f i:Nat) (m:Met),hR t≤f→RR s t i→rowOff s f m i = nRow m t
 | t,0,i,m,h,_=>hr_0 h
 | .var n,f + 1,i,m,h,d=>by rw [rowO_at d.1,← d.2]; rfl
 | .snoc t u,f + 1,i,m,h,d=>by
  refine o2_3 d fun x y h2 h3 h4=>?_
  refine (rowO_at h2).trans (?_:((tyOff s f (rowOff s f m x).1 y).1,Row.snoc (rowOff s f m x).2 (tyOff s f (rowOff s f m x).1 y).2) = _)
  rw [offq_row t f x m (mxl h) h3,offq_ty u f y _ (mxr h) h4]
  rfl
end
theorem nodup_len:∀ (n:Nat) (l:List Nat),l.Nodup→(∀ x ∈ l,x < n)→l.length≤n
 | 0,l,_,h=>by
  match l,h with
  | [],_=>simp
  | x :: l,h=>have:=h x (by simp); omega
 | n + 1,l,hn,h=>by
  have e:∀ l:List Nat,l.Nodup→l.length≤(l.filter fun x=>decide (x≠n)).length + 1:=by
   intro l
   induction l with
   | nil=>intro _; simp
   | cons a l ih =>
    intro hn
    refine o0_2 (List.nodup_cons.mp hn) fun h1 h2=>?_
    by_cases q:a = n
    ·subst q
     have:l.filter (fun x=>decide (x≠a)) = l:=by
      rw [List.filter_eq_self]
      intro x hx
      simp only [decide_eq_true_eq]
      exact fun z=>h1 (z ▸ hx)
     rw [List.filter_cons,if_neg (by simp),this,List.length_cons]
     omega
    ·rw [List.filter_cons,if_pos (by simpa using q),List.length_cons,List.length_cons]
     have:=ih h2
     omega
  have h1:=e l hn
  have h2:=nodup_len n (l.filter fun x=>decide (x≠n)) (hn.filter _) fun x hx=>by
   rw [List.mem_filter] at hx
   have:=h x hx.1
   have:=hx.2
   simp only [decide_eq_true_eq] at this
   omega
  omega
theorem fin_chain {s:Store} {B:Nat} (W:WfS s B) (hK:KidsIn s):∀ (m i:Nat),i < s.nodes.size→FnH s m i→(∀ m',m' < m→¬ FnH s m' i)→∃ l:List Nat,l.length = m∧l.Nodup∧(∀ x ∈ l,x < s.nodes.size)∧∀ x ∈ l,FnH s m x
 | 0,i,_,hf,_=>hf.elim
 | 1,i,hi,hf,_=>⟨[i],rfl,by simp,fun x hx=>by simp at hx; omega,fun x hx=>by simp at hx; rw [hx]; exact hf⟩
 | m + 2,i,hi,hf,hm=>by
  have hn:=hm (m + 1) (by omega)
  have hex:∃ c ∈ under (s.at_ i),¬ FnH s m c:=by
   refine Classical.byContradiction fun q=>hn fun c hc=>Classical.byContradiction fun z=>q ⟨c,hc,z⟩
  refine o1_2 hex fun c hc hcn=>?_
  have hcs:c < s.nodes.size:=by rw [at_nd] at hc; exact hK _ (W.root_lt hi) c hc
  refine o1_4 (fin_chain W hK (m + 1) c hcs (hf c hc) fun m' hm' q=>hcn (q.mono (by omega))) fun l h1 h2 h3 h4=>?_
  refine ⟨i :: l,by rw [List.length_cons,h1],List.nodup_cons.mpr ⟨fun z=>hn (h4 i z),h2⟩,fun x hx=>?_,fun x hx=>?_⟩
  ·rcases List.mem_cons.mp hx with rfl | hx
   ·exact hi
   ·exact h3 x hx
  ·rcases List.mem_cons.mp hx with rfl | hx
   ·exact hf
   ·exact (h4 x hx).mono (by omega)
theorem fin_size {s:Store} {B:Nat} (W:WfS s B) (hK:KidsIn s) {h i:Nat} (hi:i < s.nodes.size) (hf:FnH s h i):FnH s s.nodes.size i:=by
 refine o1_2 (FnH.least hf) fun m hm hmin=>?_
 refine o1_4 (fin_chain W hK m i hi hm hmin) fun l h1 h2 h3 _=>?_
 have:=nodup_len _ l h2 h3
 exact hm.mono (by omega)
end Mi
namespace Mi
open Rs
structure PEff (rg:Bool) (s:Store) (x:Store × Nat × Nat) (M:Names) (e:Effect):Prop where
 flat:FlatS x.1
 dag:Dag x.1
 size:s.nodes.size≤x.1.nodes.size
 old:∀ i,i < s.nodes.size→ndAt x.1 i = ndAt s i
 nm:NmOk rg x.1 M
 lt1:x.2.1 < x.1.nodes.size
 lt2:x.2.2 < x.1.nodes.size
 den:∀ (τ:Nat→Tm) (χ:Bool→Nat→Tm),Mdl x.1 τ→(∀ k i,(k,i) ∈ M→τ i = χ k.1 k.2)→τ x.2.1 = embR χ e.before∧τ x.2.2 = embR χ e.behind
 ex:∀ (τ:Nat→Tm) (χ:Bool→Nat→Tm),Mdl s τ→(rg = true→∀ b n,χ b n = Tm.cs b n)→∃ τ',Mdl x.1 τ'∧(∀ i,i < s.nodes.size→τ' i = τ i)∧∀ k i,(k,i) ∈ M→τ' i = χ k.1 k.2
 srt:∀ κ,Srt s κ→∃ κ',Srt x.1 κ'∧(∀ i,i < s.nodes.size→κ' i = κ i)∧(∀ k i,(k,i) ∈ M→κ' i = k.1)∧κ' x.2.1 = true∧κ' x.2.2 = true
theorem peff (rg:Bool) (e:Effect) {s:Store} (hf:FlatS s) (hd:Dag s):∃ M,PEff rg s (putEffect rg e s) M e:=by
 have a:=pm_row rg e.before s [] hf hd ⟨fun k i h=>by simp at h,fun k i j h=>by simp at h⟩
 have b:=pm_row rg e.behind _ _ a.flat a.dag a.nm
 refine o0_3 (a.seq b) fun q1 q2 q3=>?_
 exact ⟨_,b.flat,b.dag,Nat.le_trans a.size b.size,fun i hi=>(b.old i (Nat.lt_of_lt_of_le hi a.size)).trans (a.old i hi),b.nm,Nat.lt_of_lt_of_le a.lt b.size,b.lt,q1,fun τ χ m h=>q2 τ χ m (fun k i z=>by simp at z) h,
  fun κ h=>q3 κ h fun k i z=>by simp at z⟩
theorem dag0:Dag store0:=fun i hi=>by simp [store0] at hi
theorem mdl0 (τ:Nat→Tm):Mdl store0 τ:=⟨fun i hi=>by simp [store0] at hi,fun i hi=>by simp [store0] at hi⟩
theorem srt0 (κ:Nat→Bool):Srt store0 κ:=fun i hi=>by simp [store0] at hi
theorem norig0:NoRig store0:=fun i b n h=>by simp [ndAt,store0] at h
theorem norig_eff (e:Effect) {s:Store} (h:NoRig s):NoRig (putEffect false e s).1:=norig_row e.behind _ _ (norig_row e.before s [] h)
theorem PEff.back {rg:Bool} {s:Store} {x:Store × Nat × Nat} {M:Names} {e:Effect} {τ:Nat→Tm} (p:PEff rg s x M e) (hf:FlatS s) (m:Mdl x.1 τ):Mdl s τ :=
 ⟨fun i hi=>by have:=m.ok i (Nat.lt_of_lt_of_le hi p.size); rw [p.old i hi] at this; exact this,fun i hi=>by rw [hf.put]⟩
def chi (τ:Nat→Tm) (M:Names) (b:Bool) (n:Nat):Tm:=match M.find? fun x=>x.1 == (b,n) with
 | some x=>τ x.2
 | none=>.lf 9
theorem chi_at {rg:Bool} {s:Store} {M:Names} (h:NmOk rg s M) (τ:Nat→Tm):∀ k i,(k,i) ∈ M→τ i = chi τ M k.1 k.2:=fun k i hm=>by
 unfold chi
 cases q:M.find? (fun x=>x.1 == (k.1,k.2)) with
 | none=>exact absurd (by simp) (List.find?_eq_none.mp q _ hm)
 | some x =>
  have h1:=List.mem_of_find?_eq_some q
  have h2:x.1 = (k.1,k.2):=by simpa using List.find?_some q
  have h3:(k,x.2) ∈ M:=by rw [show k = x.1 by rw [h2]]; exact h1
  simp only []
  rw [h.key k i x.2 hm h3]
theorem PEff.read {rg:Bool} {s:Store} {x:Store × Nat × Nat} {M:Names} {e:Effect} {τ:Nat→Tm} (p:PEff rg s x M e) (m:Mdl x.1 τ):τ x.2.1 = embR (chi τ M) e.before∧τ x.2.2 = embR (chi τ M) e.behind:=p.den τ _ m (chi_at p.nm τ)
theorem fuel_ok {s:Store} (hf:FlatS s) {l:List (Nat × Nat)} (h:l.length≤2):2 * nrs s + l.length≤4 * s.nodes.size + 8:=by
 have:=hf.wf.cnt
 omega
def Joins (d e:Effect) (r s:Row):Prop:=∃ f g f' g',d.before.put f g = r∧d.behind.put f g = e.before.put f' g'∧e.behind.put f' g' = s
def MostGen (d e E:Effect):Prop:=∀ r s,Joins d e r s↔∃ f g,E.before.put f g = r∧E.behind.put f g = s
theorem srt_alike {κ:Nat→Bool} {a b:Nat} {x y:Nd} {k:List (Nat × Nat)} (hx:SrtN κ a x) (hy:SrtN κ b y) (h:alike x y = some k):Rel (fun a b=>κ a = κ b) k:=by
 cases al_of h with
 | rigid=>exact rel_nil
 | num=>exact rel_nil
 | bool=>exact rel_nil
 | list=>exact rel_one (R:=fun a b=>κ a = κ b) (hx.2.trans hy.2.symm)
 | _=>exact rel_two (R:=fun a b=>κ a = κ b) (hx.2.1.trans hy.2.1.symm) (hx.2.2.trans hy.2.2.symm)
theorem off_eff {s:Store} {B i j:Nat} (W:WfS s B) {r1 r2:Row} (R1:RR s r1 i) (R2:RR s r2 j) (H1:hR r1≤s.nodes.size) (H2:hR r2≤s.nodes.size):effectOff s i j = if 120 < Effect.weight ⟨r1,r2⟩ then none else some (nEff ⟨r1,r2⟩):=by
 have rr:∀ a,s.root (s.root a) = s.root a:=fun a=>by
  by_cases ha:a < s.nodes.size
  ·exact W.root_root ha
  ·rw [root_out W ha,root_out W ha]
 have r0:RightQ s (Array.replicate s.nodes.size none):=fun k n q=>by
  rw [Array.getD_eq_getD_getElem?,Array.getElem?_replicate] at q
  split at q
  ·exact nomatch q
  ·exact nomatch q
 have w1:=weighq_row rr r1 (s.nodes.size + 2) i _ (Nat.le_trans H1 (Nat.le_add_right _ 2)) R1 r0
 have w2:=weighq_row rr r2 (s.nodes.size + 2) j _ (Nat.le_trans H2 (Nat.le_add_right _ 2)) R2 w1.2
 have ew:weightOf s [i,j] = Effect.weight ⟨r1,r2⟩:=by
  show 0 + (weigh s (s.nodes.size + 2) (Array.replicate s.nodes.size none) i).2 + (weigh s (s.nodes.size + 2) (weigh s (s.nodes.size + 2) (Array.replicate s.nodes.size none) i).1 j).2 = _
  rw [w1.1,w2.1,Nat.zero_add]
  rfl
 unfold effectOff HEAVY
 rw [ew]
 by_cases hw:120 < Effect.weight ⟨r1,r2⟩
 ·rw [if_pos hw,if_pos hw]
 ·rw [if_neg hw,if_neg hw]
  have hw':r1.weight + r2.weight≤120:=Nat.le_of_not_lt hw
  have o1:=offq_row r1 (4 * 120) i ⟨[],[]⟩ (Nat.le_trans (hr_w r1).1 (Nat.le_trans (Nat.le_trans (Nat.le_add_right _ _) hw') (of_decide_eq_true rfl))) R1
  have o2:=offq_row r2 (4 * 120) j (nRow ⟨[],[]⟩ r1).1 (Nat.le_trans (hr_w r2).1 (Nat.le_trans (Nat.le_trans (Nat.le_add_left _ _) hw') (of_decide_eq_true rfl))) R2
  rw [o1]
  dsimp only
  rw [o2]
  rfl
theorem then_spec (d e:Effect):(following d e = none∧∀ r s,¬ Joins d e r s)∨∃ E,MostGen d e E∧following d e = some (if 120 < E.weight then none else some (nEff E)):=by
 unfold following same
 simp only []
 refine o1_1 (peff false d flat0 dag0) fun Md pd=>?_
 have nrd:=norig_eff d norig0
 generalize putEffect false d store0 = x at pd nrd
 refine o1_1 (peff false e pd.flat pd.dag) fun Me pe=>?_
 have nre:=norig_eff e nrd
 generalize putEffect false e x.1 = y at pe nre
 have hz:=pe.size
 have l1:x.2.1 < y.1.nodes.size:=Nat.lt_of_lt_of_le pd.lt1 hz
 have l2:x.2.2 < y.1.nodes.size:=Nat.lt_of_lt_of_le pd.lt2 hz
 have S:=sameAll_ok (4 * y.1.nodes.size + 8) y.1 0 [(x.2.2,y.2.1)] pe.flat.wf pe.dag.kids (rel_one (R:=fun a b=>a < y.1.nodes.size∧b < y.1.nodes.size) ⟨l2,pe.lt1⟩) (pe.flat.cmp _) (fuel_ok pe.flat (by simp))
 have up:∀ r s,Joins d e r s→∃ τ,Mdl y.1 τ∧Rel (fun a b=>τ a = τ b) [(x.2.2,y.2.1)]∧τ x.2.1 = embR Tm.v r∧τ y.2.2 = embR Tm.v s:=by
  (intro r s oi4; refine o4_3 oi4 fun f g f' g' e1 e2 e3=>?_)
  refine o1_3 (pd.ex (fun _=>.lf 0) (sbs Tm.v f g) (mdl0 _) (nomatch ·)) fun τ1 h1 _ h3=>?_
  refine o1_3 (pe.ex τ1 (sbs Tm.v f' g') h1 (nomatch ·)) fun τ2 g1 g2 g3=>?_
  (refine o0_2 (pd.den τ2 (sbs Tm.v f g) (pe.back pd.flat g1) fun k i z=>by rw [g2 i (pd.nm.at_ k i z).1]; exact h3 k i z) fun a1 a2=>?_)
  refine o0_2 (pe.den τ2 _ g1 g3) fun b1 b2=>?_
  refine ⟨τ2,g1,rel_cons.mpr ⟨?_,rel_nil⟩,?_,?_⟩
  ·rw [a2,b1,← put_embR,← put_embR,e2]
  ·rw [a1,← put_embR,e1]
  ·rw [b2,← put_embR,e3]
 cases q:sameAll (4 * y.1.nodes.size + 8) y.1 [(x.2.2,y.2.1)] with
 | none =>
  rw [q] at S
  refine .inl ⟨rfl,fun r s h=>?_⟩
  refine o1_3 (up r s h) fun τ m r _=>?_
  exact S τ m r
 | some s' =>
  rw [q] at S
  have D:Done y.1 _ s':=S
  (refine o0_8 (id D) fun y11_0 hn hc hm hr hp hF hG=>?_; refine o1_1 y11_0 fun B W=>?_)
  have hnd:∀ i,ndAt s' i = ndAt y.1 i:=fun i=>by unfold ndAt; rw [hn]
  have hK:KidsIn s':=fun a ha c hcc=>by
   rw [hnd] at hcc
   rw [hn] at ha ⊢
   exact pe.dag.kids a ha c hcc
  have hb:∀ z ∈ [x.2.2,y.2.1],z < s'.nodes.size:=fun z hz=>by
   rw [hn]
   rcases List.mem_cons.mp hz with hz | hz
   ·rw [hz]; exact l2
   ·rw [List.mem_singleton.mp hz]; exact pe.lt1
  simp only []
  by_cases hst:straight s' [x.2.2,y.2.1] = true
  ·rw [if_pos hst]
   have h:=(straight_iff W hK hb).mp hst
   have fin:=all_fin pe.flat pe.dag D (rel_one (R:=fun a b=>(∃ h,FnH s' h a)∧∃ h,FnH s' h b) ⟨h _ (.head _),h _ (.tail _ (.head _))⟩) y.1.nodes.size
   have hH:∀ a,a < s'.nodes.size→FnH s' s'.nodes.size a:=fun a ha=>by
    (refine o1_1 (fin a (by rw [← hn]; exact ha) (by rw [← hn]; exact ha)) fun h q=>?_)
    exact fin_size W hK ha q
   refine o1_5 (pd.srt (fun _=>false) (srt0 _)) fun κ1 c1 _ c3 c4 c5=>?_
   refine o1_5 (pe.srt κ1 c1) fun κ k1 k2 k3 k4 k5=>?_
   have kx1:κ x.2.1 = true:=(k2 _ pd.lt1).trans c4
   have kx2:κ x.2.2 = true:=(k2 _ pd.lt2).trans c5
   have hS:Srt s' κ:=fun i hi=>by rw [hnd]; exact k1 i (by rw [← hn]; exact hi)
   have hκ:∀ a,κ a = κ (s'.root a):=hG (fun a b=>κ a = κ b) (fun _ _ h=>h.symm) (fun _ _ _ h1 h2=>h1.trans h2) (fun a b k ha hb _ hk=>srt_alike (k1 a ha) (k1 b hb) hk) (fun a=>by rw [pe.flat.root]) (rel_one (R:=fun a b=>κ a = κ b) (kx2.trans k4.symm))
   have hNR:NoRig s':=fun i b n z=>by rw [hnd] at z; exact nre i b n z
   have m':=mdl_tre κ W hK hc hH
   have rd:=fun i hi=>read_ok W hK hS hκ hNR s'.nodes.size i hi (hH i hi)
   generalize ht:tre s' κ s'.nodes.size = τ at m'
   have rd:∀ i,i < s'.nodes.size→(κ i = false→∃ t,RT s' t i∧τ i = embT Tm.v t∧hT t≤s'.nodes.size)∧(κ i = true→∃ r,RR s' r i∧τ i = embR Tm.v r∧hR r≤s'.nodes.size):=fun i hi=>by
    have:=rd i hi
    rw [show tre s' κ s'.nodes.size i = τ i from congrFun ht i] at this
    exact this
   refine o0_2 ((hm τ).mp m') fun m rl=>?_
   have re:=(rel_cons.mp rl).1
   (refine o1_3 ((rd x.2.1 (by rw [hn]; exact l1)).2 kx1) fun r1 R1 T1 H1=>?_)
   (refine o1_3 ((rd y.2.2 (by rw [hn]; exact pe.lt2)).2 k5) fun r2 R2 T2 H2=>?_)
   refine .inr ⟨⟨r1,r2⟩,fun r s=>⟨fun hj=>?_,fun ⟨F,G,e1,e2⟩=>?_⟩,?_⟩
   ·refine o1_4 (up r s hj) fun θ mθ rθ t1 t2=>?_
    have mθ':=(hm θ).mpr ⟨mθ,rθ⟩
    have fac:=fun i (hi:i < s'.nodes.size)=>mdl_factor κ W hK mθ' s'.nodes.size i hi (hH i hi)
    rw [ht] at fac
    have f1:=fac x.2.1 (by rw [hn]; exact l1)
    have f2:=fac y.2.2 (by rw [hn]; exact pe.lt2)
    rw [T1,sub_embR,t1] at f1
    rw [T2,sub_embR,t2] at f2
    exact ⟨_,_,put_invR (.inl rfl) _ _ f1.symm,put_invR (.inl rfl) _ _ f2.symm⟩
   ·-- any instance joins
    have mF:=mdl_sub (sbs Tm.v F G) m
    have mFd:=pe.back pd.flat mF
    refine o0_2 (pd.read mFd) fun a1 a2=>?_
    refine o0_2 (pe.read mF) fun b1 b2=>?_
    have vals:∀ (M:Names),NmOk false y.1 M→(∀ k i,(k,i) ∈ M→κ i = k.1)→∃ (f:Nat→Ty) (g:Nat→Row),∀ (t:Row),(∃ q,embR (chi (fun i=>(τ i).sub (sbs Tm.v F G)) M) t = embR Tm.v q)→embR (chi (fun i=>(τ i).sub (sbs Tm.v F G)) M) t = embR Tm.v (t.put f g):=fun M _ _ =>
     ⟨fun n=>invT (chi (fun i=>(τ i).sub (sbs Tm.v F G)) M false n),fun n=>invR (chi (fun i=>(τ i).sub (sbs Tm.v F G)) M true n),fun t ⟨q,hq⟩=>by rw [put_invR (.inl rfl) t q hq]; exact hq⟩
    have isRow:∀ i,i < s'.nodes.size→κ i = true→∃ q,(τ i).sub (sbs Tm.v F G) = embR Tm.v q:=fun i hi hk=>by
     refine o1_3 ((rd i hi).2 hk) fun r _ T _=>?_
     refine ⟨r.put F G,?_⟩
     rw [T,sub_embR,put_embR]
     rfl
    (refine o2_1 (vals Md ⟨fun k i z=>⟨Nat.lt_of_lt_of_le (pd.nm.at_ k i z).1 hz,by rw [pe.old i (pd.nm.at_ k i z).1]; exact (pd.nm.at_ k i z).2⟩,pd.nm.key⟩ fun k i z=>(k2 i (pd.nm.at_ k i z).1).trans (c3 k i z)) fun f g vd=>?_)
    refine o2_1 (vals Me pe.nm k3) fun f' g' ve=>?_
    have x1:=vd d.before ((isRow x.2.1 (by rw [hn]; exact l1) kx1).imp fun q h=>a1.symm.trans h)
    have x2:=vd d.behind ((isRow x.2.2 (by rw [hn]; exact l2) kx2).imp fun q h=>a2.symm.trans h)
    have y1:=ve e.before ((isRow y.2.1 (by rw [hn]; exact pe.lt1) k4).imp fun q h=>b1.symm.trans h)
    have y2:=ve e.behind ((isRow y.2.2 (by rw [hn]; exact pe.lt2) k5).imp fun q h=>b2.symm.trans h)
    refine ⟨f,g,f',g',?_,?_,?_⟩
    ·refine embR_inj (.inl rfl) ?_
     rw [← x1,← a1,← e1,put_embR]
     show (τ x.2.1).sub _ = _
     rw [T1,sub_embR]
     rfl
    ·refine embR_inj (.inl rfl) ?_
     rw [← x2,← y1,← a2,← b1]
     show (τ x.2.2).sub _ = (τ y.2.1).sub _
     rw [re]
    ·refine embR_inj (.inl rfl) ?_
     rw [← y2,← b2,← e2,put_embR]
     show (τ y.2.2).sub _ = _
     rw [T2,sub_embR]
     rfl
   ·-- what is read off
    exact congrArg some (off_eff W R1 R2 H1 H2)
  ·rw [if_neg hst]
   refine .inl ⟨rfl,fun r s h=>?_⟩
   refine o1_3 (up r s h) fun τ m rl _=>?_
   exact hst ((straight_iff W hK hb).mpr fun z hz=>⟨_,mdl_fin W hK ((hm τ).mpr ⟨m,rl⟩) _ z (hb z hz) (Nat.le_refl _)⟩)
end Mi
namespace Mi
open Rs
mutual
theorem put_putT (f f':Nat→Ty) (g g':Nat→Row):∀ t:Ty,(t.put f g).put f' g' = t.put (fun n=>(f n).put f' g') (fun n=>(g n).put f' g')
 | .num=>rfl
 | .bool=>rfl
 | .list t=>by simp only [Ty.put,put_putT f f' g g' t]
 | .pair a b=>by simp only [Ty.put,put_putT f f' g g' a,put_putT f f' g g' b]
 | .fn a b=>by simp only [Ty.put,put_putR f f' g g' a,put_putR f f' g g' b]
 | .var n=>rfl
theorem put_putR (f f':Nat→Ty) (g g':Nat→Row):∀ t:Row,(t.put f g).put f' g' = t.put (fun n=>(f n).put f' g') (fun n=>(g n).put f' g')
 | .var n=>rfl
 | .snoc a b=>by simp only [Row.put,put_putR f f' g g' a,put_putT f f' g g' b]
end
mutual
theorem put_selfT:∀ t:Ty,t.put Ty.var Row.var = t
 | .num=>rfl
 | .bool=>rfl
 | .list t=>by simp only [Ty.put,put_selfT t]
 | .pair a b=>by simp only [Ty.put,put_selfT a,put_selfT b]
 | .fn a b=>by simp only [Ty.put,put_selfR a,put_selfR b]
 | .var n=>rfl
theorem put_selfR:∀ t:Row,t.put Ty.var Row.var = t
 | .var n=>rfl
 | .snoc a b=>by simp only [Row.put,put_selfR a,put_selfT b]
end
mutual
theorem fix_ty {F:Nat→Ty} {G:Nat→Row}:∀ t:Ty,t.put F G = t→(∀ n,ETok.ty n ∈ tTy t→F n = .var n)∧(∀ n,ETok.row n ∈ tTy t→G n = .var n)
 | .num,_=>⟨fun n h=>by simp [tTy] at h,fun n h=>by simp [tTy] at h⟩
 | .bool,_=>⟨fun n h=>by simp [tTy] at h,fun n h=>by simp [tTy] at h⟩
 | .list t,h=>by
  simp only [Ty.put,Ty.list.injEq] at h
  have k:=fix_ty t h
  exact ⟨fun n q=>k.1 n (by simpa [tTy] using q),fun n q=>k.2 n (by simpa [tTy] using q)⟩
 | .pair a b,h=>by
  simp only [Ty.put,Ty.pair.injEq] at h
  have k1:=fix_ty a h.1
  have k2:=fix_ty b h.2
  exact ⟨fun n q=>(show ETok.ty n ∈ tTy a∨ETok.ty n ∈ tTy b by simpa [tTy] using q).elim (k1.1 n) (k2.1 n),fun n q=>(show ETok.row n ∈ tTy a∨ETok.row n ∈ tTy b by simpa [tTy] using q).elim (k1.2 n) (k2.2 n)⟩
 | .fn a b,h=>by
  simp only [Ty.put,Ty.fn.injEq] at h
  have k1:=fix_row a h.1
  have k2:=fix_row b h.2
  exact ⟨fun n q=>(show ETok.ty n ∈ tRow a∨ETok.ty n ∈ tRow b by simpa [tTy] using q).elim (k1.1 n) (k2.1 n),fun n q=>(show ETok.row n ∈ tRow a∨ETok.row n ∈ tRow b by simpa [tTy] using q).elim (k1.2 n) (k2.2 n)⟩
 | .var m,h=>⟨fun n q=>by
   have e:n = m:=by simpa [tTy] using q
   subst e
   exact h,fun n q=>by simp [tTy] at q⟩
theorem fix_row {F:Nat→Ty} {G:Nat→Row}:∀ t:Row,t.put F G = t→(∀ n,ETok.ty n ∈ tRow t→F n = .var n)∧(∀ n,ETok.row n ∈ tRow t→G n = .var n)
 | .var m,h=>⟨fun n q=>by simp [tRow] at q,fun n q=>by
   have e:n = m:=by simpa [tRow] using q
   subst e
   exact h⟩
 | .snoc a b,h=>by
  simp only [Row.put,Row.snoc.injEq] at h
  have k1:=fix_row a h.1
  have k2:=fix_ty b h.2
  exact ⟨fun n q=>(show ETok.ty n ∈ tRow a∨ETok.ty n ∈ tTy b by simpa [tRow] using q).elim (k1.1 n) (k2.1 n),fun n q=>(show ETok.row n ∈ tRow a∨ETok.row n ∈ tTy b by simpa [tRow] using q).elim (k1.2 n) (k2.2 n)⟩
end
def rn (a b:Nat→Nat):ETok→ETok
 | .ty n=>.ty (a n)
 | .row n=>.row (b n)
 | t=>t
mutual
theorem rn_ty {f:Nat→Ty} {g:Nat→Row} {a b:Nat→Nat}:∀ t:Ty,(∀ n,ETok.ty n ∈ tTy t→f n = .var (a n))→(∀ n,ETok.row n ∈ tTy t→g n = .var (b n))→tTy (t.put f g) = (tTy t).map (rn a b)
 | .num,_,_=>rfl
 | .bool,_,_=>rfl
 | .list t,h1,h2=>by
  have k:=rn_ty t (fun n q=>h1 n (by simp [tTy,q])) fun n q=>h2 n (by simp [tTy,q])
  simp only [Ty.put,tTy,k,List.map_cons,List.map_append,List.map_nil,rn]
 | .pair x y,h1,h2=>by
  have k1:=rn_ty x (fun n q=>h1 n (by simp [tTy,q])) fun n q=>h2 n (by simp [tTy,q])
  have k2:=rn_ty y (fun n q=>h1 n (by simp [tTy,q])) fun n q=>h2 n (by simp [tTy,q])
  simp only [Ty.put,tTy,k1,k2,List.map_cons,List.map_append,List.map_nil,rn]
 | .fn x y,h1,h2=>by
  have k1:=rn_row x (fun n q=>h1 n (by simp [tTy,q])) fun n q=>h2 n (by simp [tTy,q])
  have k2:=rn_row y (fun n q=>h1 n (by simp [tTy,q])) fun n q=>h2 n (by simp [tTy,q])
  simp only [Ty.put,tTy,k1,k2,List.map_cons,List.map_append,List.map_nil,rn]
 | .var n,h1,_=>by simp only [Ty.put,h1 n (by simp [tTy]),tTy,List.map_cons,List.map_nil,rn]
theorem rn_row {f:Nat→Ty} {g:Nat→Row} {a b:Nat→Nat}:∀ t:Row,(∀ n,ETok.ty n ∈ tRow t→f n = .var (a n))→(∀ n,ETok.row n ∈ tRow t→g n = .var (b n))→tRow (t.put f g) = (tRow t).map (rn a b)
 | .var n,_,h2=>by simp only [Row.put,h2 n (by simp [tRow]),tRow,List.map_cons,List.map_nil,rn]
 | .snoc x y,h1,h2=>by
  have k1:=rn_row x (fun n q=>h1 n (by simp [tRow,q])) fun n q=>h2 n (by simp [tRow,q])
  have k2:=rn_ty y (fun n q=>h1 n (by simp [tRow,q])) fun n q=>h2 n (by simp [tRow,q])
  simp only [Row.put,tRow,k1,k2,List.map_append]
end
theorem met_rn {b:Nat→Nat} {n:Nat}:∀ (l:List Nat),(∀ x ∈ l,b x = b n→x = n)→metNo (l.map b) (b n) = ((metNo l n).1.map b,(metNo l n).2):=by
 intro l h
 have key:∀ l:List Nat,(∀ x ∈ l,b x = b n→x = n)→(l.map b).findIdx? (fun j=>j == b n) = l.findIdx? (fun j=>j == n):=by
  intro l
  induction l with
  | nil=>intro _; rfl
  | cons x l ih =>
   intro h
   rw [List.map_cons,List.findIdx?_cons,List.findIdx?_cons,ih fun y hy=>h y (by simp [hy])]
   have e:(b x == b n) = (x == n):=by
    rw [Bool.eq_iff_iff]
    simp only [beq_iff_eq]
    exact ⟨fun q=>h x (by simp) q,fun q=>by rw [q]⟩
   rw [e]
 unfold metNo
 rw [key l h]
 cases l.findIdx? (fun j=>j == n) with
 | some k=>rfl
 | none=>simp
theorem metNo_mem {l:List Nat} {n x:Nat} (h:x ∈ (metNo l n).1):x ∈ l∨x = n:=by
 unfold metNo at h
 cases q:l.findIdx? (fun j=>j == n) with
 | some k=>rw [q] at h; exact .inl h
 | none=>rw [q] at h; simpa using h
theorem nToks_rn {a b:Nat→Nat} {A B:Nat→Prop} (hA:∀ x y,A x→A y→a x = a y→x = y) (hB:∀ x y,B x→B y→b x = b y→x = y):∀ (l:List ETok) (m:Met),(∀ n,ETok.ty n ∈ l→A n)→(∀ n,ETok.row n ∈ l→B n)→(∀ n ∈ m.types,A n)→(∀ n ∈ m.rows,B n) →
  (nToks ⟨m.rows.map b,m.types.map a⟩ (l.map (rn a b))).2 = (nToks m l).2
 | [],m,_,_,_,_=>rfl
 | t :: l,m,h1,h2,h3,h4=>by
  have r1:∀ n,ETok.ty n ∈ l→A n:=fun n q=>h1 n (by simp [q])
  have r2:∀ n,ETok.row n ∈ l→B n:=fun n q=>h2 n (by simp [q])
  rw [List.map_cons,nToks_cons,nToks_cons]
  cases t with
  | ty n =>
   have An:=h1 n (by simp)
   have e:=met_rn (b:=a) (n:=n) m.types fun x hx q=>hA x n (h3 x hx) An q
   have ih:=nToks_rn hA hB l ⟨m.rows,(metNo m.types n).1⟩ r1 r2 (fun x hx=>(metNo_mem hx).elim (h3 x) fun q=>q ▸ An) h4
   simp only [rn,nTok,e]
   rw [← ih]
  | row n =>
   have Bn:=h2 n (by simp)
   have e:=met_rn (b:=b) (n:=n) m.rows fun x hx q=>hB x n (h4 x hx) Bn q
   have ih:=nToks_rn hA hB l ⟨(metNo m.rows n).1,m.types⟩ r1 r2 h3 fun x hx=>(metNo_mem hx).elim (h4 x) fun q=>q ▸ Bn
   simp only [rn,nTok,e]
   rw [← ih]
  | _ =>
   all_goals
    have ih:=nToks_rn hA hB l m r1 r2 h3 h4
    simp only [rn,nTok]
    rw [ih]
theorem mostgen_inst {d e E E':Effect} (h:MostGen d e E) (h':MostGen d e E'):∃ f g,E.before.put f g = E'.before∧E.behind.put f g = E'.behind :=
 (h _ _).mp ((h' _ _).mpr ⟨Ty.var,Row.var,put_selfR _,put_selfR _⟩)
def vT:Ty→Nat
 | .var n=>n
 | _=>0
def vR:Row→Nat
 | .var n=>n
 | _=>0
theorem mostgen_one {d e E E':Effect} (h:MostGen d e E) (h':MostGen d e E'):tEff (nEff E) = tEff (nEff E')∧E.weight = E'.weight:=by
 refine o2_2 (mostgen_inst h h') fun f g e1 e2=>?_
 refine o2_2 (mostgen_inst h' h) fun f' g' i1 i2=>?_
 have x1:E.before.put (fun n=>(f n).put f' g') (fun n=>(g n).put f' g') = E.before:=by rw [← put_putR,e1,i1]
 have x2:E.behind.put (fun n=>(f n).put f' g') (fun n=>(g n).put f' g') = E.behind:=by rw [← put_putR,e2,i2]
 refine o0_2 (fix_row _ x1) fun p1 p2=>?_
 refine o0_2 (fix_row _ x2) fun q1 q2=>?_
 have T:∀ n,ETok.ty n ∈ tEff E→(f n).put f' g' = .var n:=fun n hn=>by
  simp only [tEff,List.mem_append,List.mem_cons,reduceCtorEq,false_or] at hn
  exact hn.elim (p1 n) (q1 n)
 have R:∀ n,ETok.row n ∈ tEff E→(g n).put f' g' = .var n:=fun n hn=>by
  simp only [tEff,List.mem_append,List.mem_cons,reduceCtorEq,false_or] at hn
  exact hn.elim (p2 n) (q2 n)
 have Tv:∀ n,ETok.ty n ∈ tEff E→f n = .var (vT (f n))∧f' (vT (f n)) = .var n:=fun n hn=>by
  have:=T n hn
  cases q:f n <;> rw [q] at this <;> simp only [Ty.put,reduceCtorEq] at this
  exact ⟨rfl,this⟩
 have Rv:∀ n,ETok.row n ∈ tEff E→g n = .var (vR (g n))∧g' (vR (g n)) = .var n:=fun n hn=>by
  have:=R n hn
  cases q:g n <;> rw [q] at this <;> simp only [Row.put,reduceCtorEq] at this
  exact ⟨rfl,this⟩
 have in1:∀ t,t ∈ tRow E.before→t ∈ tEff E:=fun t ht=>by simp [tEff,ht]
 have in2:∀ t,t ∈ tRow E.behind→t ∈ tEff E:=fun t ht=>by simp [tEff,ht]
 have et:tEff E' = (tEff E).map (rn (fun n=>vT (f n)) (fun n=>vR (g n))):=by
  have r1:=rn_row (f:=f) (g:=g) (a:=fun n=>vT (f n)) (b:=fun n=>vR (g n)) E.before (fun n hn=>(Tv n (in1 _ hn)).1) fun n hn=>(Rv n (in1 _ hn)).1
  have r2:=rn_row (f:=f) (g:=g) (a:=fun n=>vT (f n)) (b:=fun n=>vR (g n)) E.behind (fun n hn=>(Tv n (in2 _ hn)).1) fun n hn=>(Rv n (in2 _ hn)).1
  rw [e1] at r1
  rw [e2] at r2
  simp only [tEff,r1,r2,List.map_append,List.map_cons,rn]
 constructor
 ·rw [← n_eff,← n_eff,et]
  exact (nToks_rn (A:=fun n=>ETok.ty n ∈ tEff E) (B:=fun n=>ETok.row n ∈ tEff E) (fun x y hx hy q=>by
   have a1:=(Tv x hx).2
   have a2:=(Tv y hy).2
   rw [q,a2] at a1
   exact (Ty.var.inj a1).symm) (fun x y hx hy q=>by
   have a1:=(Rv x hx).2
   have a2:=(Rv y hy).2
   rw [q,a2] at a1
   exact (Row.var.inj a1).symm) (tEff E) ⟨[],[]⟩ (fun _ h=>h) (fun _ h=>h) (fun _ h=>by simp at h) fun _ h=>by simp at h).symm
 ·rw [← w_eff,← w_eff,et]
  unfold wToks
  rw [List.map_map]
  congr 1
  refine List.map_congr_left fun t _=>?_
  cases t <;> rfl
theorem text_of_toks {E E':Effect} (h:tEff E = tEff E'):E.text = E'.text:=by rw [← wr_eff,← wr_eff,h]
end Mi
namespace Mi
open Rs
abbrev Sg:=Option Sy
abbrev Nk:=Sg × List Int
def numIn (tb:List Nk) (n:Nk):List Nk × Nat:=if n ∈ tb then (tb,tb.idxOf n) else (tb ++ [n],tb.length)
def TbX (tb tb':List Nk):Prop:=∃ more,tb' = tb ++ more
theorem TbX.refl (tb:List Nk):TbX tb tb:=⟨[],by simp⟩
theorem TbX.trans {a b c:List Nk} (h:TbX a b) (g:TbX b c):TbX a c:=by
 (refine o1_1 h fun x y1_1=>?_; subst y1_1)
 (refine o1_1 g fun y y2_1=>?_; subst y2_1)
 exact ⟨x ++ y,by simp⟩
theorem TbX.get {a b:List Nk} (h:TbX a b) {i:Nat} {n:Nk} (e:a[i]? = some n):b[i]? = some n:=by
 (refine o1_1 h fun x y3_1=>?_; subst y3_1)
 rw [List.getElem?_append_left (List.getElem?_eq_some_iff.mp e).1]
 exact e
theorem numIn_ext (tb:List Nk) (n:Nk):TbX tb (numIn tb n).1:=by
 unfold numIn
 split
 ·exact TbX.refl _
 ·exact ⟨[n],rfl⟩
theorem numIn_nd {tb:List Nk} (h:tb.Nodup) (n:Nk):(numIn tb n).1.Nodup:=by
 unfold numIn
 split
 ·exact h
 ·rename_i hn
  rw [List.nodup_append]
  refine ⟨h,by simp,fun a ha b hb=>?_⟩
  have e:b = n:=by simpa using hb
  subst e
  exact fun z=>hn (z ▸ ha)
theorem numIn_get (tb:List Nk) (n:Nk):(numIn tb n).1[(numIn tb n).2]? = some n:=by
 unfold numIn
 split
 ·rename_i h
  have hl:=List.idxOf_lt_length_of_mem h
  simp only []
  rw [List.getElem?_eq_getElem hl,List.getElem_idxOf hl]
 ·simp
theorem numIn_len (tb:List Nk) (n:Nk):(numIn tb n).1.length≤tb.length + 1:=by
 unfold numIn
 split
 ·simp
 ·simp
def parts:Sg→Nat
 | some .list=>1
 | some .pair=>2
 | some .ob=>2
 | none=>2
 | _=>0
def nodeOf (b:List Nat) (g:Sg):Nk:=(g,(b.take (parts g)).reverse.map fun (i:Nat)=>(i:Int))
def joinB (b:List Nat) (g:Sg) (tb:List Nk):List Nat × List Nk:=((numIn tb (nodeOf b g)).2 :: b.drop (parts g),(numIn tb (nodeOf b g)).1)
abbrev S3:=List Nat × List Sy × List Nk
def opens (k:Sy):Bool:=decide (k = .list) || decide (k = .pair) || decide (k = .ob)
def leafK (k:Sy):Bool:=decide (k = .row) || decide (k = .ty) || decide (k = .num) || decide (k = .bool)
def endsK (k:Sy):Bool:=decide (k = .cp) || decide (k = .cb)
def itemEnd (k:Sy):Bool:=decide (k = .ty) || decide (k = .num) || decide (k = .bool) || decide (k = .cp) || decide (k = .cb)
def st1 (k:Sy) (s:S3):S3:=if opens k = true then (s.1,k :: s.2.1,s.2.2) else s
def st2 (k:Sy) (z:Int) (s:S3):S3:=if leafK k = true then ((numIn s.2.2 (some k,[z])).2 :: s.1,s.2.1,(numIn s.2.2 (some k,[z])).1) else s
def st3 (k:Sy) (s:S3):S3:=if endsK k = true then ((joinB s.1 s.2.1.head? s.2.2).1,s.2.1.tail,(joinB s.1 s.2.1.head? s.2.2).2) else s
def st4 (k:Sy) (s:S3):S3:=if itemEnd k = true∧s.2.1.head? = some .ob then ((joinB s.1 none s.2.2).1,s.2.1,(joinB s.1 none s.2.2).2) else s
def stepH (k:Sy) (z:Int) (s:S3):S3:=st4 k (st3 k (st2 k z (st1 k s)))
def runH:List Tk→S3→S3
 | [],s=>s
 | x :: r,s=>runH r (stepH x.1 x.2.1 s)
def varS (g:Sg):Bool:=decide (g = some .row) || decide (g = some .ty)
def partS (g:Sg):Bool:=decide (g = some .list) || decide (g = some .pair) || decide (g = some .ob) || decide (g = none)
def syE:ETok→Sy
 | .num=>.num
 | .bool=>.bool
 | .list=>.list
 | .pair=>.pair
 | .row _=>.row
 | .ty _=>.ty
 | .to=>.to
 | .openP=>.op
 | .closeP=>.cp
 | .openB=>.ob
 | .closeB=>.cb
 | .comma=>.cm
 | .bad=>.bad
def nuC (c:Nat→Int):ETok→Int
 | .row n=>c n
 | .ty n=>c n
 | _=>0
def goE (c:Nat→Int):List ETok→S3→S3
 | [],s=>s
 | e :: r,s=>goE c r (stepH (syE e) (nuC c e) s)
theorem goE_app (c:Nat→Int):∀ (a b:List ETok) (s:S3),goE c (a ++ b) s = goE c b (goE c a s)
 | [],_,_=>rfl
 | e :: a,b,s=>by simp only [List.cons_append,goE,goE_app c a b]
theorem goE_one (c:Nat→Int) (e:ETok) (s:S3):goE c [e] s = stepH (syE e) (nuC c e) s:=rfl
def recode (c:Nat→Int) (y:Tk):Tk:=(y.1,if y.1 = .row∨y.1 = .ty then c y.2.1.toNat else y.2.1,y.2.2)
theorem syE_et {k:Sy} {z:Int} (h1:okK k = true) (h2:0≤z) (h3:k≠.row→k≠.ty→z = 0) (c:Nat→Int):syE (et k z) = k∧nuC c (et k z) = if k = .row∨k = .ty then c z.toNat else z:=by
 cases k <;> first
  | (simp [okK] at h1; done)
  | (have e:=h3 (by decide) (by decide); subst e; exact ⟨rfl,rfl⟩)
  | exact ⟨rfl,rfl⟩
theorem runH_eq (c:Nat→Int):∀ (ts:List Tk) (s:S3),(∀ y ∈ ts,okK y.1 = true∧0≤y.2.1∧(y.1≠.row→y.1≠.ty→y.2.1 = 0))→runH (ts.map (recode c)) s = goE c (ts.map fun y=>et y.1 y.2.1) s
 | [],_,_=>rfl
 | (k,z,p) :: ts,s,h=>by
  refine o0_3 (h (k,z,p) (by simp)) fun h1 h2 h3=>?_
  simp only [runH,List.map_cons,goE]
  rw [runH_eq c ts _ fun y hy=>h y (by simp [hy])]
  simp only [] at h1 h2 h3
  refine o0_2 (syE_et h1 h2 h3 c) fun e1 e2=>?_
  rw [e1,e2]
  rfl
def kdN (tb:List Nk) (i:Nat):Bool:=match tb[i]? with
 | some (some .row,_)=>true
 | some (none,_)=>true
 | _=>false
inductive NkOk (tb:List Nk) (i:Nat):Nk→Prop where
 | num:NkOk tb i (some .num,[0])
 | bool:NkOk tb i (some .bool,[0])
 | ty (z:Int):NkOk tb i (some .ty,[z])
 | row (z:Int):NkOk tb i (some .row,[z])
 | list (a:Nat):a < i→kdN tb a = false→NkOk tb i (some .list,[(a:Int)])
 | pair (a b:Nat):a < i→b < i→kdN tb a = false→kdN tb b = false→NkOk tb i (some .pair,[(a:Int),(b:Int)])
 | ob (a b:Nat):a < i→b < i→kdN tb a = true→kdN tb b = true→NkOk tb i (some .ob,[(a:Int),(b:Int)])
 | snoc (a b:Nat):a < i→b < i→kdN tb a = true→kdN tb b = false→NkOk tb i (none,[(a:Int),(b:Int)])
structure TbOk (tb:List Nk):Prop where
 nd:tb.Nodup
 ok:∀ i n,tb[i]? = some n→NkOk tb i n
theorem kdN_ext {tb tb':List Nk} (h:TbX tb tb') {i:Nat} (hi:i < tb.length):kdN tb' i = kdN tb i:=by
 unfold kdN
 rw [List.getElem?_eq_getElem hi,h.get (List.getElem?_eq_getElem hi)]
theorem NkOk.ext {tb tb':List Nk} (h:TbX tb tb') {i:Nat} (hi:i≤tb.length) {n:Nk} (q:NkOk tb i n):NkOk tb' i n:=by
 have k:∀ a,a < i→kdN tb' a = kdN tb a:=fun a ha=>kdN_ext h (by omega)
 cases q with
 | num=>exact .num
 | bool=>exact .bool
 | ty z=>exact .ty z
 | row z=>exact .row z
 | list a h1 h2=>exact .list a h1 ((k a h1).trans h2)
 | pair a b h1 h2 h3 h4=>exact .pair a b h1 h2 ((k a h1).trans h3) ((k b h2).trans h4)
 | ob a b h1 h2 h3 h4=>exact .ob a b h1 h2 ((k a h1).trans h3) ((k b h2).trans h4)
 | snoc a b h1 h2 h3 h4=>exact .snoc a b h1 h2 ((k a h1).trans h3) ((k b h2).trans h4)
theorem TbOk.nil:TbOk []:=⟨by simp,fun i n h=>by simp at h⟩
theorem numIn_ok {tb:List Nk} (h:TbOk tb) {n:Nk} (hn:NkOk tb tb.length n):TbOk (numIn tb n).1:=by
 refine ⟨numIn_nd h.nd n,?_⟩
 unfold numIn
 split
 ·exact h.ok
 ·intro i m e
  simp only [] at e ⊢
  have hx:TbX tb (tb ++ [n]):=⟨[n],rfl⟩
  by_cases hi:i < tb.length
  ·rw [List.getElem?_append_left hi] at e
   exact (h.ok i m e).ext hx (by omega)
  ·have hl:=(List.getElem?_eq_some_iff.mp e).1
   simp only [List.length_append,List.length_cons,List.length_nil] at hl
   have ei:i = tb.length:=by omega
   subst ei
   simp only [List.getElem?_concat_length,Option.some.injEq] at e
   subst e
   exact hn.ext hx (Nat.le_refl _)
mutual
def RepT (c:Nat→Int) (tb:List Nk):Ty→Nat→Prop
 | .num,i=>tb[i]? = some (some .num,[0])
 | .bool,i=>tb[i]? = some (some .bool,[0])
 | .var n,i=>tb[i]? = some (some .ty,[c n])
 | .list t,i=>∃ j:Nat,tb[i]? = some (some .list,[(j:Int)])∧RepT c tb t j
 | .pair a b,i=>∃ j k:Nat,tb[i]? = some (some .pair,[(j:Int),(k:Int)])∧RepT c tb a j∧RepT c tb b k
 | .fn r s,i=>∃ j k:Nat,tb[i]? = some (some .ob,[(j:Int),(k:Int)])∧RepR c tb r j∧RepR c tb s k
def RepR (c:Nat→Int) (tb:List Nk):Row→Nat→Prop
 | .var n,i=>tb[i]? = some (some .row,[c n])
 | .snoc r t,i=>∃ j k:Nat,tb[i]? = some (none,[(j:Int),(k:Int)])∧RepR c tb r j∧RepT c tb t k
end
mutual
theorem repT_ext {c:Nat→Int} {tb tb':List Nk} (h:TbX tb tb'):∀ (t:Ty) {i:Nat},RepT c tb t i→RepT c tb' t i
 | .num,_,e=>by simp only [RepT] at e ⊢; exact h.get e
 | .bool,_,e=>by simp only [RepT] at e ⊢; exact h.get e
 | .var _,_,e=>by simp only [RepT] at e ⊢; exact h.get e
 | .list t,_,e=>by simp only [RepT] at e ⊢; (refine o1_2 e fun j a b=>?_); exact ⟨j,h.get a,repT_ext h t b⟩
 | .pair x y,_,e=>by simp only [RepT] at e ⊢; (refine o2_3 e fun j k a b c=>?_); exact ⟨j,k,h.get a,repT_ext h x b,repT_ext h y c⟩
 | .fn r s,_,e=>by simp only [RepT] at e ⊢; (refine o2_3 e fun j k a b c=>?_); exact ⟨j,k,h.get a,repR_ext h r b,repR_ext h s c⟩
theorem repR_ext {c:Nat→Int} {tb tb':List Nk} (h:TbX tb tb'):∀ (r:Row) {i:Nat},RepR c tb r i→RepR c tb' r i
 | .var _,_,e=>by simp only [RepR] at e ⊢; exact h.get e
 | .snoc r t,_,e=>by simp only [RepR] at e ⊢; (refine o2_3 e fun j k a b c=>?_); exact ⟨j,k,h.get a,repR_ext h r b,repT_ext h t c⟩
end
theorem repT_kd {c:Nat→Int} {tb:List Nk} {t:Ty} {i:Nat} (h:RepT c tb t i):i < tb.length∧kdN tb i = false:=by
 unfold kdN
 cases t <;> simp only [RepT] at h
 ·exact ⟨(List.getElem?_eq_some_iff.mp h).1,by rw [h]⟩
 ·exact ⟨(List.getElem?_eq_some_iff.mp h).1,by rw [h]⟩
 ·(refine o1_2 h fun _ h _=>?_); exact ⟨(List.getElem?_eq_some_iff.mp h).1,by rw [h]⟩
 ·(refine o2_2 h fun _ _ h _=>?_); exact ⟨(List.getElem?_eq_some_iff.mp h).1,by rw [h]⟩
 ·(refine o2_2 h fun _ _ h _=>?_); exact ⟨(List.getElem?_eq_some_iff.mp h).1,by rw [h]⟩
 ·exact ⟨(List.getElem?_eq_some_iff.mp h).1,by rw [h]⟩
theorem repR_kd {c:Nat→Int} {tb:List Nk} {t:Row} {i:Nat} (h:RepR c tb t i):i < tb.length∧kdN tb i = true:=by
 unfold kdN
 cases t <;> simp only [RepR] at h
 ·exact ⟨(List.getElem?_eq_some_iff.mp h).1,by rw [h]⟩
 ·(refine o2_2 h fun _ _ h _=>?_); exact ⟨(List.getElem?_eq_some_iff.mp h).1,by rw [h]⟩
theorem step_leafT {k:Sy} (hk:k = .ty∨k = .num∨k = .bool) (z:Int) (b:List Nat) (hs:List Sy) (tb:List Nk) :
  stepH k z (b,hs,tb) = st4 k ((numIn tb (some k,[z])).2 :: b,hs,(numIn tb (some k,[z])).1):=by
 rcases hk with rfl | rfl | rfl <;> rfl
def close (b:List Nat) (hs:List Sy) (tb:List Nk):S3:=if hs.head? = some .ob then ((joinB b none tb).1,hs,(joinB b none tb).2) else (b,hs,tb)
theorem st4_close {k:Sy} (hk:itemEnd k = true) (b:List Nat) (hs:List Sy) (tb:List Nk):st4 k (b,hs,tb) = close b hs tb:=by
 unfold st4 close
 simp [hk]
theorem joinB_two (x y:Nat) (b:List Nat) (g:Sg) (hg:parts g = 2) (tb:List Nk):joinB (y :: x :: b) g tb = ((numIn tb (g,[(x:Int),(y:Int)])).2 :: b,(numIn tb (g,[(x:Int),(y:Int)])).1):=by
 unfold joinB nodeOf
 rw [hg]
 rfl
theorem joinB_one (x:Nat) (b:List Nat) (g:Sg) (hg:parts g = 1) (tb:List Nk):joinB (x :: b) g tb = ((numIn tb (g,[(x:Int)])).2 :: b,(numIn tb (g,[(x:Int)])).1):=by
 unfold joinB nodeOf
 rw [hg]
 rfl
mutual
theorem goT (c:Nat→Int):∀ (t:Ty) (b:List Nat) (hs:List Sy) (tb:List Nk),TbOk tb→∃ i tb',TbX tb tb'∧TbOk tb'∧RepT c tb' t i∧goE c (tTy t) (b,hs,tb) = close (i :: b) hs tb'
 | .num,b,hs,tb,hn=>⟨(numIn tb (some .num,[0])).2,(numIn tb (some .num,[0])).1,numIn_ext tb (some .num,[0]),numIn_ok hn (by constructor),by simp only [RepT]; exact numIn_get _ _,by
   simp only [tTy,goE_one,syE,nuC]
   rw [step_leafT (.inr (.inl rfl)),st4_close rfl]⟩
 | .bool,b,hs,tb,hn=>⟨(numIn tb (some .bool,[0])).2,(numIn tb (some .bool,[0])).1,numIn_ext tb (some .bool,[0]),numIn_ok hn (by constructor),by simp only [RepT]; exact numIn_get _ _,by
   simp only [tTy,goE_one,syE,nuC]
   rw [step_leafT (.inr (.inr rfl)),st4_close rfl]⟩
 | .var n,b,hs,tb,hn=>⟨(numIn tb (some .ty,[c n])).2,(numIn tb (some .ty,[c n])).1,numIn_ext tb (some .ty,[c n]),numIn_ok hn (by constructor),by simp only [RepT]; exact numIn_get _ _,by
   simp only [tTy,goE_one,syE,nuC]
   rw [step_leafT (.inl rfl),st4_close rfl]⟩
 | .list t,b,hs,tb,hn=>by
  refine o2_4 (goT c t b (.list :: hs) tb hn) fun i tb1 e1 n1 r1 h1=>?_
  refine ⟨(numIn tb1 (some .list,[(i:Int)])).2,(numIn tb1 (some .list,[(i:Int)])).1,e1.trans (numIn_ext tb1 (some .list,[(i:Int)])),numIn_ok n1 (.list i (repT_kd r1).1 (repT_kd r1).2),?_,?_⟩
  ·simp only [RepT]
   exact ⟨i,numIn_get _ _,repT_ext (numIn_ext _ _) t r1⟩
  ·simp only [tTy,goE,goE_app]
   show stepH .cp 0 (goE c (tTy t) (b,.list :: hs,tb)) = _
   rw [h1]
   show st4 .cp (st3 .cp (i :: b,.list :: hs,tb1)) = _
   show st4 .cp ((joinB (i :: b) (some .list) tb1).1,hs,(joinB (i :: b) (some .list) tb1).2) = _
   rw [st4_close rfl,joinB_one _ _ _ rfl]
 | .pair u v,b,hs,tb,hn=>by
  refine o2_4 (goT c u b (.pair :: hs) tb hn) fun i tb1 e1 n1 r1 h1=>?_
  refine o2_4 (goT c v (i :: b) (.pair :: hs) tb1 n1) fun j tb2 e2 n2 r2 h2=>?_
  refine ⟨(numIn tb2 (some .pair,[(i:Int),(j:Int)])).2,(numIn tb2 (some .pair,[(i:Int),(j:Int)])).1,(e1.trans e2).trans (numIn_ext tb2 (some .pair,[(i:Int),(j:Int)])),numIn_ok n2 (.pair i j (repT_kd (repT_ext e2 u r1)).1 (repT_kd r2).1 (repT_kd (repT_ext e2 u r1)).2 (repT_kd r2).2),?_,?_⟩
  ·simp only [RepT]
   exact ⟨i,j,numIn_get _ _,repT_ext (e2.trans (numIn_ext _ _)) u r1,repT_ext (numIn_ext _ _) v r2⟩
  ·simp only [tTy,goE,goE_app]
   show stepH .cp 0 (goE c (tTy v) (stepH .cm 0 (goE c (tTy u) (b,.pair :: hs,tb)))) = _
   rw [h1]
   show stepH .cp 0 (goE c (tTy v) (i :: b,.pair :: hs,tb1)) = _
   rw [h2]
   show st4 .cp ((joinB (j :: i :: b) (some .pair) tb2).1,hs,(joinB (j :: i :: b) (some .pair) tb2).2) = _
   rw [st4_close rfl,joinB_two _ _ _ _ rfl]
 | .fn r s,b,hs,tb,hn=>by
  refine o2_4 (goR c r b (hs) tb hn) fun i tb1 e1 n1 r1 h1=>?_
  refine o2_4 (goR c s (i :: b) hs tb1 n1) fun j tb2 e2 n2 r2 h2=>?_
  refine ⟨(numIn tb2 (some .ob,[(i:Int),(j:Int)])).2,(numIn tb2 (some .ob,[(i:Int),(j:Int)])).1,(e1.trans e2).trans (numIn_ext tb2 (some .ob,[(i:Int),(j:Int)])),numIn_ok n2 (.ob i j (repR_kd (repR_ext e2 r r1)).1 (repR_kd r2).1 (repR_kd (repR_ext e2 r r1)).2 (repR_kd r2).2),?_,?_⟩
  ·simp only [RepT]
   exact ⟨i,j,numIn_get _ _,repR_ext (e2.trans (numIn_ext _ _)) r r1,repR_ext (numIn_ext _ _) s r2⟩
  ·simp only [tTy,goE,goE_app]
   show stepH .cb 0 (goE c (tRow s) (stepH .to 0 (goE c (tRow r) (b,.ob :: hs,tb)))) = _
   rw [h1]
   show stepH .cb 0 (goE c (tRow s) (i :: b,.ob :: hs,tb1)) = _
   rw [h2]
   show st4 .cb ((joinB (j :: i :: b) (some .ob) tb2).1,hs,(joinB (j :: i :: b) (some .ob) tb2).2) = _
   rw [st4_close rfl,joinB_two _ _ _ _ rfl]
theorem goR (c:Nat→Int):∀ (r:Row) (b:List Nat) (hs:List Sy) (tb:List Nk),TbOk tb→∃ i tb',TbX tb tb'∧TbOk tb'∧RepR c tb' r i∧goE c (tRow r) (b,.ob :: hs,tb) = (i :: b,.ob :: hs,tb')
 | .var n,b,hs,tb,hn=>⟨(numIn tb (some .row,[c n])).2,(numIn tb (some .row,[c n])).1,numIn_ext tb (some .row,[c n]),numIn_ok hn (by constructor),by simp only [RepR]; exact numIn_get _ _,rfl⟩
 | .snoc r t,b,hs,tb,hn=>by
  refine o2_4 (goR c r b hs tb hn) fun i tb1 e1 n1 r1 h1=>?_
  refine o2_4 (goT c t (i :: b) (.ob :: hs) tb1 n1) fun j tb2 e2 n2 r2 h2=>?_
  refine ⟨(numIn tb2 (none,[(i:Int),(j:Int)])).2,(numIn tb2 (none,[(i:Int),(j:Int)])).1,(e1.trans e2).trans (numIn_ext tb2 (none,[(i:Int),(j:Int)])),numIn_ok n2 (.snoc i j (repR_kd (repR_ext e2 r r1)).1 (repT_kd r2).1 (repR_kd (repR_ext e2 r r1)).2 (repT_kd r2).2),?_,?_⟩
  ·simp only [RepR]
   exact ⟨i,j,numIn_get _ _,repR_ext (e2.trans (numIn_ext _ _)) r r1,repT_ext (numIn_ext _ _) t r2⟩
  ·simp only [tRow,goE_app]
   rw [h1,h2]
   unfold close
   rw [if_pos (show (Sy.ob :: hs).head? = some Sy.ob from rfl),joinB_two _ _ _ _ rfl]
end
theorem run_eff (c:Nat→Int) (e:Effect) (tb:List Nk) (hn:TbOk tb):∃ i j tb',TbX tb tb'∧TbOk tb'∧RepR c tb' e.before i∧RepR c tb' e.behind j∧goE c (tEff e) ([],[.ob],tb) = ([j,i],[.ob],tb'):=by
 refine o2_4 (goR c e.before [] [] tb hn) fun i tb1 e1 n1 r1 h1=>?_
 refine o2_4 (goR c e.behind [i] [] tb1 n1) fun j tb2 e2 n2 r2 h2=>?_
 refine ⟨i,j,tb2,e1.trans e2,n2,repR_ext e2 _ r1,r2,?_⟩
 unfold tEff
 rw [goE_app,h1]
 show goE c (tRow e.behind) (stepH .to 0 ([i],[.ob],tb1)) = _
 exact h2
theorem numOf_zero {k:Sy} {l:List Int} (h1:k≠.row) (h2:k≠.ty):numOf k l = 0:=by
 unfold numOf
 rw [if_neg (by rintro (h | h); exact h1 h; exact h2 h)]
theorem toksF_zero:∀ (f a:Nat) (l:List Int),∀ x ∈ toksF f a l,x.1≠.row→x.1≠.ty→x.2.1 = 0
 | 0,_,_,x,h=>by simp [toksF] at h
 | _ + 1,_,[],x,h=>by simp [toksF] at h
 | f + 1,a,c :: r,x,h=>by
  simp only [toksF,List.mem_append] at h
  rcases h with h | h
  ·split at h
   ·simp at h
   ·simp only [List.mem_singleton] at h
    subst h
    exact fun h1 h2=>numOf_zero h1 h2
  ·exact toksF_zero f _ _ x h
theorem joinB_len (b:List Nat) (g:Sg) (tb:List Nk):(joinB b g tb).1.length≤b.length + 1∧(joinB b g tb).2.length≤tb.length + 1:=by
 refine ⟨?_,numIn_len _ _⟩
 simp only [joinB,List.length_cons,List.length_drop]
 omega
theorem st_len (k:Sy) (z:Int) (s:S3):(stepH k z s).1.length≤s.1.length + 3∧(stepH k z s).2.1.length≤s.2.1.length + 1∧(stepH k z s).2.2.length≤s.2.2.length + 3:=by
 obtain ⟨b,hs,tb⟩:=s
 have h1:(st1 k (b,hs,tb)).1 = b∧(st1 k (b,hs,tb)).2.1.length≤hs.length + 1∧(st1 k (b,hs,tb)).2.2 = tb:=by
  unfold st1
  split
  ·exact ⟨rfl,by simp,rfl⟩
  ·exact ⟨rfl,by simp,rfl⟩
 have h2:∀ s:S3,(st2 k z s).1.length≤s.1.length + 1∧(st2 k z s).2.1 = s.2.1∧(st2 k z s).2.2.length≤s.2.2.length + 1:=fun s=>by
  unfold st2
  split
  ·exact ⟨by simp,rfl,numIn_len _ _⟩
  ·exact ⟨by omega,rfl,by omega⟩
 have h3:∀ s:S3,(st3 k s).1.length≤s.1.length + 1∧(st3 k s).2.1.length≤s.2.1.length∧(st3 k s).2.2.length≤s.2.2.length + 1:=fun s=>by
  unfold st3
  split
  ·exact ⟨(joinB_len _ _ _).1,by simp,(joinB_len _ _ _).2⟩
  ·exact ⟨by omega,by omega,by omega⟩
 have h4:∀ s:S3,(st4 k s).1.length≤s.1.length + 1∧(st4 k s).2.1.length≤s.2.1.length∧(st4 k s).2.2.length≤s.2.2.length + 1:=fun s=>by
  unfold st4
  split
  ·exact ⟨(joinB_len _ _ _).1,by simp,(joinB_len _ _ _).2⟩
  ·exact ⟨by omega,by omega,by omega⟩
 have a2:=h2 (st1 k (b,hs,tb))
 have a3:=h3 (st2 k z (st1 k (b,hs,tb)))
 have a4:=h4 (st3 k (st2 k z (st1 k (b,hs,tb))))
 unfold stepH
 rw [h1.1,h1.2.2] at a2
 rw [a2.2.1] at a3
 simp only [] at *
 refine ⟨by omega,by omega,by omega⟩
def safe3 (k:Sy) (s:S3):Prop:=endsK k = true→∃ h r,s.2.1 = h :: r∧partS (some h) = true∧parts (some h)≤s.1.length
def safe4 (k:Sy) (s:S3):Prop:=itemEnd k = true→∃ h r,s.2.1 = h :: r∧(h = .ob→2≤s.1.length)
def safeK (k:Sy) (z:Int) (s:S3):Prop:=safe3 k (st2 k z (st1 k s))∧safe4 k (st3 k (st2 k z (st1 k s)))
def SafeE (c:Nat→Int):List ETok→S3→Prop
 | [],_=>True
 | e :: r,s=>safeK (syE e) (nuC c e) s∧SafeE c r (stepH (syE e) (nuC c e) s)
def SafeH:List Tk→S3→Prop
 | [],_=>True
 | x :: r,s=>safeK x.1 x.2.1 s∧SafeH r (stepH x.1 x.2.1 s)
theorem safe_app (c:Nat→Int):∀ (a b:List ETok) (s:S3),SafeE c (a ++ b) s↔SafeE c a s∧SafeE c b (goE c a s)
 | [],_,_=>by simp [SafeE,goE]
 | e :: a,b,s=>by simp only [List.cons_append,SafeE,goE,safe_app c a b,and_assoc]
theorem safeH_eq (c:Nat→Int):∀ (ts:List Tk) (s:S3),(∀ y ∈ ts,okK y.1 = true∧0≤y.2.1∧(y.1≠.row→y.1≠.ty→y.2.1 = 0))→SafeE c (ts.map fun y=>et y.1 y.2.1) s→SafeH (ts.map (recode c)) s
 | [],_,_,_=>trivial
 | (k,z,p) :: ts,s,h,g=>by
  refine o0_3 (h (k,z,p) (by simp)) fun h1 h2 h3=>?_
  simp only [List.map_cons,SafeE] at g
  refine o0_2 (syE_et h1 h2 h3 c) fun e1 e2=>?_
  rw [e1,e2] at g
  exact ⟨g.1,safeH_eq c ts _ (fun y hy=>h y (by simp [hy])) g.2⟩
theorem safe_no {k:Sy} {z:Int} {s:S3} (h1:endsK k = false) (h2:itemEnd k = false):safeK k z s:=⟨fun e=>absurd e (by rw [h1]; decide),fun e=>absurd e (by rw [h2]; decide)⟩
theorem safe_leaf {k:Sy} (hk:k = .ty∨k = .num∨k = .bool) {z:Int} {b:List Nat} {h:Sy} {hs:List Sy} {tb:List Nk} (hb:h = .ob→b≠[]):safeK k z (b,h :: hs,tb):=by
 have e3:endsK k = false:=by rcases hk with rfl | rfl | rfl <;> rfl
 refine ⟨fun e=>absurd e (by rw [e3]; decide),fun _=>⟨h,hs,?_,fun e=>?_⟩⟩
 ·rcases hk with rfl | rfl | rfl <;> rfl
 ·obtain ⟨x,y,rfl⟩:∃ x y,b = x :: y:=by
   cases b with
   | nil=>exact absurd rfl (hb e)
   | cons x y=>exact ⟨x,y,rfl⟩
  rcases hk with rfl | rfl | rfl <;> exact Nat.le_add_left 2 _
theorem safe_end {k:Sy} (hk:k = .cp∨k = .cb) {z:Int} {b:List Nat} {g h:Sy} {hs:List Sy} {tb:List Nk} (hg:partS (some g) = true) (hp:parts (some g)≤b.length) (hb:h = .ob→parts (some g) + 1≤b.length):safeK k z (b,g :: h :: hs,tb):=by
 have e:st2 k z (st1 k (b,g :: h :: hs,tb)) = (b,g :: h :: hs,tb):=by rcases hk with rfl | rfl <;> rfl
 have e3:endsK k = true:=by rcases hk with rfl | rfl <;> rfl
 refine ⟨fun _=>⟨g,h :: hs,by rw [e],hg,by rw [e]; exact hp⟩,fun _=>⟨h,hs,?_,fun q=>?_⟩⟩
 ·rw [e]
  unfold st3
  rw [if_pos e3]
  rfl
 ·rw [e]
  unfold st3
  rw [if_pos e3]
  have:=hb q
  simp only [joinB,List.head?_cons,List.length_cons,List.length_drop]
  omega
theorem close_no {h:Sy} (hh:h≠.ob) (b:List Nat) (hs:List Sy) (tb:List Nk):close b (h :: hs) tb = (b,h :: hs,tb):=by
 unfold close
 rw [if_neg (by simpa using hh)]
mutual
theorem safeT (c:Nat→Int):∀ (t:Ty) (b:List Nat) (h:Sy) (hs:List Sy) (tb:List Nk),TbOk tb→(h = .ob→b≠[])→SafeE c (tTy t) (b,h :: hs,tb)
 | .num,b,h,hs,tb,hn,hb=>⟨safe_leaf (.inr (.inl rfl)) hb,trivial⟩
 | .bool,b,h,hs,tb,hn,hb=>⟨safe_leaf (.inr (.inr rfl)) hb,trivial⟩
 | .var n,b,h,hs,tb,hn,hb=>⟨safe_leaf (.inl rfl) hb,trivial⟩
 | .list t,b,h,hs,tb,hn,hb=>by
  refine o2_4 (goT c t b (.list :: h :: hs) tb hn) fun i tb1 e1 n1 r1 h1=>?_
  simp only [tTy,SafeE]
  refine ⟨safe_no rfl rfl,safe_no rfl rfl,?_⟩
  show SafeE c (tTy t ++ [.closeP]) (b,.list :: h :: hs,tb)
  rw [safe_app,h1,close_no (by decide)]
  refine ⟨safeT c t b .list (h :: hs) tb hn (fun e=>absurd e (by decide)),safe_end (.inl rfl) rfl (by simp [parts]) (fun e=>?_),trivial⟩
  have:=hb e
  cases b with
  | nil=>exact absurd rfl this
  | cons x y=>simp [parts]
 | .pair u v,b,h,hs,tb,hn,hb=>by
  refine o2_4 (goT c u b (.pair :: h :: hs) tb hn) fun i tb1 e1 n1 r1 h1=>?_
  refine o2_4 (goT c v (i :: b) (.pair :: h :: hs) tb1 n1) fun j tb2 e2 n2 r2 h2=>?_
  simp only [tTy,SafeE]
  refine ⟨safe_no rfl rfl,safe_no rfl rfl,?_⟩
  show SafeE c (tTy u ++ (.comma :: (tTy v ++ [.closeP]))) (b,.pair :: h :: hs,tb)
  rw [safe_app,h1,close_no (by decide)]
  refine ⟨safeT c u b .pair (h :: hs) tb hn (fun e=>absurd e (by decide)),safe_no rfl rfl,?_⟩
  show SafeE c (tTy v ++ [.closeP]) (i :: b,.pair :: h :: hs,tb1)
  rw [safe_app,h2,close_no (by decide)]
  refine ⟨safeT c v (i :: b) .pair (h :: hs) tb1 n1 (fun e=>absurd e (by decide)),safe_end (.inl rfl) rfl (by simp [parts]) (fun e=>?_),trivial⟩
  have:=hb e
  cases b with
  | nil=>exact absurd rfl this
  | cons x y=>simp [parts]
 | .fn r s,b,h,hs,tb,hn,hb=>by
  refine o2_4 (goR c r b (h :: hs) tb hn) fun i tb1 e1 n1 r1 h1=>?_
  refine o2_4 (goR c s (i :: b) (h :: hs) tb1 n1) fun j tb2 e2 n2 r2 h2=>?_
  simp only [tTy,SafeE]
  refine ⟨safe_no rfl rfl,?_⟩
  show SafeE c (tRow r ++ (.to :: (tRow s ++ [.closeB]))) (b,.ob :: h :: hs,tb)
  rw [safe_app,h1]
  refine ⟨safeR c r b (h :: hs) tb hn,safe_no rfl rfl,?_⟩
  show SafeE c (tRow s ++ [.closeB]) (i :: b,.ob :: h :: hs,tb1)
  rw [safe_app,h2]
  refine ⟨safeR c s (i :: b) (h :: hs) tb1 n1,safe_end (.inr rfl) rfl (by simp [parts]) (fun e=>?_),trivial⟩
  have:=hb e
  cases b with
  | nil=>exact absurd rfl this
  | cons x y=>simp [parts]
theorem safeR (c:Nat→Int):∀ (r:Row) (b:List Nat) (hs:List Sy) (tb:List Nk),TbOk tb→SafeE c (tRow r) (b,.ob :: hs,tb)
 | .var n,b,hs,tb,hn=>⟨safe_no rfl rfl,trivial⟩
 | .snoc r t,b,hs,tb,hn=>by
  refine o2_4 (goR c r b hs tb hn) fun i tb1 e1 n1 r1 h1=>?_
  simp only [tRow]
  rw [safe_app,h1]
  exact ⟨safeR c r b hs tb hn,safeT c t (i :: b) .ob hs tb1 n1 (fun _=>by simp)⟩
end
theorem safe_eff (c:Nat→Int) (e:Effect) (tb:List Nk) (hn:TbOk tb):SafeE c (tEff e) ([],[.ob],tb):=by
 refine o2_4 (goR c e.before [] [] tb hn) fun i tb1 e1 n1 r1 h1=>?_
 unfold tEff
 rw [safe_app,h1]
 exact ⟨safeR c e.before [] [] tb hn,safe_no rfl rfl,safeR c e.behind [i] [] tb1 n1⟩
theorem walk_of (c:Nat→Int) {l:List Int} {x:Effect} (h:InB l) (ht:(toks 0 l).map (fun y=>et y.1 y.2.1) = tEff x) (hk:∀ y ∈ toks 0 l,okK y.1 = true∧0≤y.2.1) {tb:List Nk} (hn:TbOk tb) :
  ∃ i j tb',TbX tb tb'∧TbOk tb'∧RepR c tb' x.before i∧RepR c tb' x.behind j∧runH ((toks 0 l).map (recode c)) ([],[.ob],tb) = ([j,i],[.ob],tb')∧SafeH ((toks 0 l).map (recode c)) ([],[.ob],tb)∧goE c (tEff x) ([],[.ob],tb) = ([j,i],[.ob],tb'):=by
 refine o3_5 (run_eff c x tb hn) fun i j tb' e n a b r=>?_
 have hk':∀ y ∈ toks 0 l,okK y.1 = true∧0≤y.2.1∧(y.1≠.row→y.1≠.ty→y.2.1 = 0):=fun y hy=>⟨(hk y hy).1,(hk y hy).2,toksF_zero _ _ _ y hy⟩
 refine ⟨i,j,tb',e,n,a,b,?_,?_,r⟩
 ·rw [runH_eq c _ _ hk',ht,r]
 ·refine safeH_eq c _ _ hk' ?_
  rw [ht]
  exact safe_eff c x tb hn
theorem runH_len:∀ (ts:List Tk) (s:S3),(runH ts s).2.2.length≤s.2.2.length + 3 * ts.length
 | [],s=>Nat.le_refl _
 | x :: ts,s=>by
  have h1:=runH_len ts (stepH x.1 x.2.1 s)
  have h2:=(st_len x.1 x.2.1 s).2.2
  simp only [runH,List.length_cons]
  omega
end Mi
namespace Mi
open Rs
def ndS (fx i:Nat) (z y:Int):Sg→Nd
 | none=>.snoc z.toNat y.toNat
 | some .bool=>.bool
 | some .ty=>if i < fx then .var else .rigid false (-1 - z).toNat
 | some .row=>if i < fx then .var else .rigid true (-1 - z).toNat
 | some .list=>.list z.toNat
 | some .pair=>.pair z.toNat y.toNat
 | some .ob=>.fn z.toNat y.toNat
 | some _=>.num
def ndI (fx i:Nat) (n:Nk):Nd:=ndS fx i (n.2.headD 0) (n.2.tail.headD 0) n.1
def stOf (tb:List Nk) (fx:Nat):Store:=⟨(tb.mapIdx (ndI fx)).toArray,(List.range tb.length).toArray⟩
theorem st_size (tb:List Nk) (fx:Nat):(stOf tb fx).nodes.size = tb.length:=by simp [stOf]
theorem st_nd {tb:List Nk} {fx i:Nat} {n:Nk} (h:tb[i]? = some n):ndAt (stOf tb fx) i = ndI fx i n:=by
 unfold ndAt stOf
 simp only [Array.getD_eq_getD_getElem?,List.getElem?_toArray,List.getElem?_mapIdx,h]
 rfl
theorem st_flat (tb:List Nk) (fx:Nat):FlatS (stOf tb fx):=by
 refine ⟨by simp [stOf],fun i=>?_⟩
 unfold stOf
 simp only [Array.getD_eq_getD_getElem?,List.getElem?_toArray]
 by_cases h:i < tb.length
 ·rw [List.getElem?_range h]; rfl
 ·rw [List.getElem?_eq_none (by simpa using h)]; rfl
inductive NdC (tb:List Nk) (fx i:Nat):Nk→Nd→Prop where
 | num:NdC tb fx i (some .num,[0]) .num
 | bool:NdC tb fx i (some .bool,[0]) .bool
 | tyV (z:Int):i < fx→NdC tb fx i (some .ty,[z]) .var
 | tyR (z:Int):¬ i < fx→NdC tb fx i (some .ty,[z]) (.rigid false (-1 - z).toNat)
 | rowV (z:Int):i < fx→NdC tb fx i (some .row,[z]) .var
 | rowR (z:Int):¬ i < fx→NdC tb fx i (some .row,[z]) (.rigid true (-1 - z).toNat)
 | list (a:Nat):a < i→kdN tb a = false→NdC tb fx i (some .list,[(a:Int)]) (.list a)
 | pair (a b:Nat):a < i→b < i→kdN tb a = false→kdN tb b = false→NdC tb fx i (some .pair,[(a:Int),(b:Int)]) (.pair a b)
 | ob (a b:Nat):a < i→b < i→kdN tb a = true→kdN tb b = true→NdC tb fx i (some .ob,[(a:Int),(b:Int)]) (.fn a b)
 | snoc (a b:Nat):a < i→b < i→kdN tb a = true→kdN tb b = false→NdC tb fx i (none,[(a:Int),(b:Int)]) (.snoc a b)
theorem ndC {tb:List Nk} {i:Nat} {n:Nk} (h:NkOk tb i n) (fx:Nat):NdC tb fx i n (ndI fx i n):=by
 cases h with
 | num=>exact .num
 | bool=>exact .bool
 | ty z =>
  by_cases q:i < fx
  ·rw [show ndI fx i (some .ty,[z]) = .var by simp [ndI,ndS,q]]; exact .tyV z q
  ·rw [show ndI fx i (some .ty,[z]) = .rigid false (-1 - z).toNat by simp [ndI,ndS,q]]; exact .tyR z q
 | row z =>
  by_cases q:i < fx
  ·rw [show ndI fx i (some .row,[z]) = .var by simp [ndI,ndS,q]]; exact .rowV z q
  ·rw [show ndI fx i (some .row,[z]) = .rigid true (-1 - z).toNat by simp [ndI,ndS,q]]; exact .rowR z q
 | list a h1 h2=>exact .list a h1 h2
 | pair a b h1 h2 h3 h4=>exact .pair a b h1 h2 h3 h4
 | ob a b h1 h2 h3 h4=>exact .ob a b h1 h2 h3 h4
 | snoc a b h1 h2 h3 h4=>exact .snoc a b h1 h2 h3 h4
theorem at_lt {tb:List Nk} {i:Nat} (h:i < tb.length):∃ n,tb[i]? = some n:=⟨_,List.getElem?_eq_getElem h⟩
theorem st_ndC {tb:List Nk} (T:TbOk tb) (fx:Nat) {i:Nat} (h:i < tb.length):∃ n,tb[i]? = some n∧NdC tb fx i n (ndAt (stOf tb fx) i):=by
 refine o1_1 (at_lt h) fun n hn=>?_
 exact ⟨n,hn,by rw [st_nd hn]; exact ndC (T.ok i n hn) fx⟩
theorem st_dag {tb:List Nk} (T:TbOk tb) (fx:Nat):Dag (stOf tb fx):=fun i hi c hc=>by
 rw [st_size] at hi
 refine o1_2 (st_ndC T fx hi) fun n _ q=>?_
 generalize ndAt (stOf tb fx) i = x at q hc
 cases q <;> simp only [under,List.not_mem_nil,List.mem_cons,or_false] at hc
 ·subst hc; assumption
 all_goals (rcases hc with rfl | rfl <;> assumption)
theorem st_srt {tb:List Nk} (T:TbOk tb) (fx:Nat):Srt (stOf tb fx) (kdN tb):=fun i hi=>by
 rw [st_size] at hi
 refine o1_2 (st_ndC T fx hi) fun n hn q=>?_
 generalize ndAt (stOf tb fx) i = x at q
 have hk:∀ b,(∀ m:Nk,m = n→(match some m with
  | some (some Sy.row,_)=>true
  | some (none,_)=>true
  | _=>false) = b)→kdN tb i = b:=fun b h=>by
  unfold kdN
  rw [hn]
  exact h n rfl
 cases q <;> simp only [SrtN]
 ·exact hk _ (by rintro m rfl; rfl)
 ·exact hk _ (by rintro m rfl; rfl)
 ·exact hk _ (by rintro m rfl; rfl)
 ·exact hk _ (by rintro m rfl; rfl)
 ·exact ⟨hk _ (by rintro m rfl; rfl),by assumption⟩
 ·exact ⟨hk _ (by rintro m rfl; rfl),by assumption,by assumption⟩
 ·exact ⟨hk _ (by rintro m rfl; rfl),by assumption,by assumption⟩
 ·exact ⟨hk _ (by rintro m rfl; rfl),by assumption,by assumption⟩
def vlS (α:Bool→Int→Tm) (x y:Tm) (z:Int):Sg→Tm
 | none=>.nd 3 x y
 | some .bool=>.lf 1
 | some .ty=>α false z
 | some .row=>α true z
 | some .list=>.nd 0 x (.lf 2)
 | some .pair=>.nd 1 x y
 | some .ob=>.nd 2 x y
 | some _=>.lf 0
def vl (tb:List Nk) (α:Bool→Int→Tm):Nat→Nat→Tm
 | 0,_=>.lf 0
 | f + 1,i=>match tb[i]? with
  | some n=>vlS α (vl tb α f (n.2.headD 0).toNat) (vl tb α f (n.2.tail.headD 0).toNat) (n.2.headD 0) n.1
  | none=>.lf 0
theorem vl_up {tb:List Nk} (T:TbOk tb) (α:Bool→Int→Tm):∀ (f i:Nat),i < f→vl tb α f i = vl tb α (i + 1) i
 | 0,i,h=>by omega
 | f + 1,i,h=>by
  by_cases hi:i < tb.length
  ·refine o1_1 (at_lt hi) fun n hn=>?_
   have k:=T.ok i n hn
   have down:∀ a,a < i→vl tb α f a = vl tb α i a:=fun a ha=>by rw [vl_up T α f a (by omega),vl_up T α i a ha]
   simp only [vl,hn]
   cases k with
   | num=>rfl
   | bool=>rfl
   | ty z=>rfl
   | row z=>rfl
   | list a h1 _=>simp only [vlS,List.headD_cons,List.tail_cons,Int.toNat_natCast,down a h1]
   | pair a b h1 h2 _ _=>simp only [vlS,List.headD_cons,List.tail_cons,Int.toNat_natCast,down a h1,down b h2]
   | ob a b h1 h2 _ _=>simp only [vlS,List.headD_cons,List.tail_cons,Int.toNat_natCast,down a h1,down b h2]
   | snoc a b h1 h2 _ _=>simp only [vlS,List.headD_cons,List.tail_cons,Int.toNat_natCast,down a h1,down b h2]
  ·simp only [vl,List.getElem?_eq_none (Nat.le_of_not_lt hi)]
 termination_by f=>f
def vlT (tb:List Nk) (α:Bool→Int→Tm) (i:Nat):Tm:=vl tb α (i + 1) i
theorem vlT_mdl {tb:List Nk} (T:TbOk tb) (fx:Nat) (α:Bool→Int→Tm) (hα:∀ i z,¬ i < fx→(tb[i]? = some (some .ty,[z])→α false z = .cs false (-1 - z).toNat)∧(tb[i]? = some (some .row,[z])→α true z = .cs true (-1 - z).toNat)):Mdl (stOf tb fx) (vlT tb α):=by
 refine ⟨fun i hi=>?_,fun i hi=>by rw [(st_flat tb fx).put]⟩
 rw [st_size] at hi
 refine o1_2 (st_ndC T fx hi) fun n hn q=>?_
 have e:∀ a,a < i→vl tb α i a = vlT tb α a:=fun a ha=>vl_up T α i a ha
 have h0:vlT tb α i = vl tb α (i + 1) i:=rfl
 simp only [vl,hn] at h0
 generalize ndAt (stOf tb fx) i = x at q
 cases q <;> simp only [Nok] <;> simp only [vlS,List.headD_cons,List.tail_cons,Int.toNat_natCast] at h0
 ·exact h0
 ·exact h0
 ·rename_i z hz
  rw [h0]; exact (hα i z hz).1 hn
 ·rename_i z hz
  rw [h0]; exact (hα i z hz).2 hn
 ·rename_i a h1 h2
  rw [h0,e a h1]
 all_goals
  rename_i a b h1 h2 h3 h4
  rw [h0,e a h1,e b h2]
theorem vlT_var {tb:List Nk} (α:Bool→Int→Tm) {i:Nat} {z:Int}:(tb[i]? = some (some .ty,[z])→vlT tb α i = α false z)∧(tb[i]? = some (some .row,[z])→vlT tb α i = α true z):=by
 constructor <;> intro h <;> simp only [vlT,vl,h,vlS,List.headD_cons]
structure ChiOk (c:Nat→Int) (tb:List Nk) (τ:Nat→Tm) (χ:Bool→Nat→Tm):Prop where
 ty:∀ i n,tb[i]? = some (some .ty,[c n])→τ i = χ false n
 row:∀ i n,tb[i]? = some (some .row,[c n])→τ i = χ true n
mutual
theorem den_ty {c:Nat→Int} {tb:List Nk} {fx:Nat} {τ:Nat→Tm} {χ:Bool→Nat→Tm} (m:Mdl (stOf tb fx) τ) (hχ:ChiOk c tb τ χ):∀ (t:Ty) (i:Nat),RepT c tb t i→τ i = embT χ t
 | .num,i,h=>by
  simp only [RepT] at h
  have ok:=m.ok i (by rw [st_size]; exact (List.getElem?_eq_some_iff.mp h).1)
  rw [st_nd h] at ok
  exact ok
 | .bool,i,h=>by
  simp only [RepT] at h
  have ok:=m.ok i (by rw [st_size]; exact (List.getElem?_eq_some_iff.mp h).1)
  rw [st_nd h] at ok
  exact ok
 | .var n,i,h=>by
  simp only [RepT] at h
  exact hχ.ty i n h
 | .list t,i,h=>by
  simp only [RepT] at h
  refine o1_2 h fun a h h1=>?_
  have ok:=m.ok i (by rw [st_size]; exact (List.getElem?_eq_some_iff.mp h).1)
  rw [st_nd h] at ok
  simp only [ndI,ndS,List.headD_cons,List.tail_cons,Int.toNat_natCast,Nok,den_ty m hχ t a h1] at ok
  exact ok
 | .pair t u,i,h=>by
  simp only [RepT] at h
  refine o2_3 h fun a b h h1 h2=>?_
  have ok:=m.ok i (by rw [st_size]; exact (List.getElem?_eq_some_iff.mp h).1)
  rw [st_nd h] at ok
  simp only [ndI,ndS,List.headD_cons,List.tail_cons,Int.toNat_natCast,Nok,den_ty m hχ t a h1,den_ty m hχ u b h2] at ok
  exact ok
 | .fn t u,i,h=>by
  simp only [RepT] at h
  refine o2_3 h fun a b h h1 h2=>?_
  have ok:=m.ok i (by rw [st_size]; exact (List.getElem?_eq_some_iff.mp h).1)
  rw [st_nd h] at ok
  simp only [ndI,ndS,List.headD_cons,List.tail_cons,Int.toNat_natCast,Nok,den_row m hχ t a h1,den_row m hχ u b h2] at ok
  exact ok
theorem den_row {c:Nat→Int} {tb:List Nk} {fx:Nat} {τ:Nat→Tm} {χ:Bool→Nat→Tm} (m:Mdl (stOf tb fx) τ) (hχ:ChiOk c tb τ χ):∀ (t:Row) (i:Nat),RepR c tb t i→τ i = embR χ t
 | .var n,i,h=>by
  simp only [RepR] at h
  exact hχ.row i n h
 | .snoc t u,i,h=>by
  simp only [RepR] at h
  refine o2_3 h fun a b h h1 h2=>?_
  have ok:=m.ok i (by rw [st_size]; exact (List.getElem?_eq_some_iff.mp h).1)
  rw [st_nd h] at ok
  simp only [ndI,ndS,List.headD_cons,List.tail_cons,Int.toNat_natCast,Nok,den_row m hχ t a h1,den_ty m hχ u b h2] at ok
  exact ok
end
def chiN (c:Nat→Int) (tb:List Nk) (τ:Nat→Tm) (b:Bool) (n:Nat):Tm:=τ (tb.idxOf (some (if b = true then Sy.row else Sy.ty),[c n]))
theorem idx_at {tb:List Nk} (hn:tb.Nodup) {i:Nat} {n:Nk} (h:tb[i]? = some n):tb.idxOf n = i:=by
 refine o1_1 (List.getElem?_eq_some_iff.mp h) fun hi e=>?_
 have hm:n ∈ tb:=List.mem_of_getElem? h
 have hl:=List.idxOf_lt_length_of_mem hm
 have e2:tb[tb.idxOf n]? = some n:=by rw [List.getElem?_eq_getElem hl,List.getElem_idxOf hl]
 exact (List.getElem?_inj hl hn).mp (e2.trans h.symm)
theorem chiN_ok {tb:List Nk} (T:TbOk tb) (c:Nat→Int) (τ:Nat→Tm):ChiOk c tb τ (chiN c tb τ) :=
 ⟨fun i n h=>by unfold chiN; rw [if_neg Bool.false_ne_true,idx_at T.nd h],fun i n h=>by unfold chiN; rw [if_pos rfl,idx_at T.nd h]⟩
def eqAll:Nat→Store→List (Nat × Nat)→Option Store
 | _,s,[]=>some s
 | 0,_,_=>none
 | f + 1,s,x :: l =>
  if s.root x.1 = s.root x.2 then eqAll f s l
  else if Rs.isVar (ndAt s (s.root x.1)) = true then eqAll f (s.bind (s.root x.1) (s.root x.2)) l
  else if Rs.isVar (ndAt s (s.root x.2)) = true then eqAll f (s.bind (s.root x.2) (s.root x.1)) l
  else match alike (ndAt s (s.root x.1)) (ndAt s (s.root x.2)) with
   | none=>none
   | some k=>eqAll f (s.bind (s.root x.1) (s.root x.2)) (k.reverse ++ l)
theorem eq_stepA:StepA eqAll List.reverse:=by
 refine ⟨fun f s=>by cases f <;> rfl,fun f s x l e=>if_pos e,fun f s x l a1 e v=>(if_neg e).trans (if_pos v),fun f s x l a1 a2 e v w=>?_,fun f s x l a1 a2 e v w=>?_,fun k p=>List.mem_reverse,fun k=>List.length_reverse⟩
 ·exact (if_neg e).trans ((if_neg (by rw [v]; exact Bool.false_ne_true)).trans (if_pos w))
 ·refine (if_neg e).trans ((if_neg (by rw [v]; exact Bool.false_ne_true)).trans ((if_neg (by rw [w]; exact Bool.false_ne_true)).trans ?_))
  cases alike (ndAt s (s.root x.1)) (ndAt s (s.root x.2)) <;> rfl
theorem eqAll_ok (f:Nat) (s:Store) (B:Nat) (l:List (Nat × Nat)):WfS s B→KidsIn s→Bd s l→Cmp s l→2 * nrs s + l.length≤f →
  match eqAll f s l with
  | none=>∀ τ,Mdl s τ→¬ Rel (fun a b=>τ a = τ b) l
  | some s'=>Done s l s':=stepA_ok eq_stepA f s B l
end Mi
namespace Mi
open Rs
def cT (n:Nat):Int:=(n:Int)
def cU (n:Nat):Int:=-1 - (n:Int)
theorem cU_nat (n:Nat):(-1 - cU n).toNat = n:=by unfold cU; omega
theorem cT_nat (n:Nat):(cT n).toNat = n:=by unfold cT; omega
def alpha (χ χ':Bool→Nat→Tm) (b:Bool) (z:Int):Tm:=if 0≤z then χ b z.toNat else χ' b (-1 - z).toNat
theorem alphaT (χ χ':Bool→Nat→Tm) (b:Bool) (n:Nat):alpha χ χ' b (cT n) = χ b n:=by
 unfold alpha
 rw [if_pos (by unfold cT; omega),cT_nat]
theorem alphaU (χ χ':Bool→Nat→Tm) (b:Bool) (n:Nat):alpha χ χ' b (cU n) = χ' b n:=by
 unfold alpha
 rw [if_neg (by unfold cU; omega),cU_nat]
theorem alpha_chi {tb:List Nk} (χ χ':Bool→Nat→Tm):ChiOk cT tb (vlT tb (alpha χ χ')) χ∧ChiOk cU tb (vlT tb (alpha χ χ')) χ' :=
 ⟨⟨fun i n h=>((vlT_var _).1 h).trans (alphaT χ χ' _ n),fun i n h=>((vlT_var _).2 h).trans (alphaT χ χ' _ n)⟩,⟨fun i n h=>((vlT_var _).1 h).trans (alphaU χ χ' _ n),fun i n h=>((vlT_var _).2 h).trans (alphaU χ χ' _ n)⟩⟩
theorem norig_st {tb:List Nk} (T:TbOk tb):NoRig (stOf tb tb.length):=fun i b n h=>by
 by_cases hi:i < tb.length
 ·refine o1_2 (st_ndC T tb.length hi) fun m hm q=>?_
  rw [h] at q
  cases q <;> exact absurd hi (by assumption)
 ·unfold ndAt stOf at h
  rw [Array.getD_eq_getD_getElem?,List.getElem?_toArray,List.getElem?_mapIdx,List.getElem?_eq_none (by omega)] at h
  cases h
theorem then_up {tb:List Nk} (T:TbOk tb) {i j i' j':Nat} {d e:Effect} (a:RepR cT tb d.before i) (b:RepR cT tb d.behind j) (a':RepR cU tb e.before i') (b':RepR cU tb e.behind j'):∀ r s,Joins d e r s →
  ∃ τ,Mdl (stOf tb tb.length) τ∧Rel (fun a b=>τ a = τ b) [(j,i')]∧τ i = embR Tm.v r∧τ j' = embR Tm.v s:=by
 (intro r s oi2; refine o4_3 oi2 fun f g f' g' e1 e2 e3=>?_)
 have m:=vlT_mdl T tb.length (alpha (sbs Tm.v f g) (sbs Tm.v f' g')) (fun i z hi=>⟨fun h=>absurd (List.getElem?_eq_some_iff.mp h).1 hi,fun h=>absurd (List.getElem?_eq_some_iff.mp h).1 hi⟩)
 refine o0_2 (alpha_chi (tb:=tb) (sbs Tm.v f g) (sbs Tm.v f' g')) fun c1 c2=>?_
 refine ⟨_,m,rel_cons.mpr ⟨?_,rel_nil⟩,?_,?_⟩
 ·rw [den_row m c1 _ _ b,den_row m c2 _ _ a',← put_embR,← put_embR,e2]
 ·rw [den_row m c1 _ _ a,← put_embR,e1]
 ·rw [den_row m c2 _ _ b',← put_embR,e3]
theorem then_ok {tb:List Nk} (T:TbOk tb) {i j i' j' f:Nat} {d e:Effect} (a:RepR cT tb d.before i) (b:RepR cT tb d.behind j) (a':RepR cU tb e.before i') (b':RepR cU tb e.behind j') (hf:2 * nrs (stOf tb tb.length) + 1≤f) :
  match eqAll f (stOf tb tb.length) [(j,i')] with
  | none=>∀ r s,¬ Joins d e r s
  | some s'=>s'.nodes = (stOf tb tb.length).nodes∧(∃ B,WfS s' B)∧s'.root j = s'.root i'∧Cmp s' []∧(∀ a,kdN tb a = kdN tb (s'.root a)) ∧
   (((∃ h,FnH s' h i)∧(∃ h,FnH s' h j)∧∃ h,FnH s' h j')→(∀ a,a < tb.length→FnH s' tb.length a)∧∃ r1 r2,RR s' r1 i∧RR s' r2 j'∧MostGen d e ⟨r1,r2⟩) ∧
   (¬ ((∃ h,FnH s' h i)∧(∃ h,FnH s' h j)∧∃ h,FnH s' h j')→∀ r s,¬ Joins d e r s):=by
 have hK:=(st_dag T tb.length).kids
 have F:=st_flat tb tb.length
 have lt1:=(repR_kd a).1
 have lt2:=(repR_kd b).1
 have lt3:=(repR_kd a').1
 have lt4:=(repR_kd b').1
 have S:=eqAll_ok f (stOf tb tb.length) 0 [(j,i')] F.wf hK (rel_one (R:=fun a b=>a < (stOf tb tb.length).nodes.size∧b < (stOf tb tb.length).nodes.size) (by rw [st_size]; exact ⟨lt2,lt3⟩)) (F.cmp _) hf
 have up:=then_up T a b a' b'
 cases q:eqAll f (stOf tb tb.length) [(j,i')] with
 | none =>
  rw [q] at S
  intro r s h
  refine o1_3 (up r s h) fun τ m r _=>?_
  exact S τ m r
 | some s' =>
  rw [q] at S
  have D:Done (stOf tb tb.length) _ s':=S
  (refine o0_8 (id D) fun y6_0 hn hc hm hr hp hF hG=>?_; refine o1_1 y6_0 fun B W=>?_)
  have hsz:s'.nodes.size = tb.length:=by rw [hn,st_size]
  have hnd:∀ i,ndAt s' i = ndAt (stOf tb tb.length) i:=fun i=>by unfold ndAt; rw [hn]
  have hK':KidsIn s':=by
   unfold KidsIn ndAt at hK ⊢
   rw [hn]
   exact hK
  have er:s'.root j = s'.root i':=hp (j,i') (by simp)
  have k1:=st_srt T tb.length
  have hκ:∀ a,kdN tb a = kdN tb (s'.root a):=hG (fun a b=>kdN tb a = kdN tb b) (fun _ _ h=>h.symm) (fun _ _ _ h1 h2=>h1.trans h2) (fun a b k ha hb _ hk=>srt_alike (k1 a ha) (k1 b hb) hk) (fun a=>by rw [F.root]) (rel_one (R:=fun a b=>kdN tb a = kdN tb b) ((repR_kd b).2.trans (repR_kd a').2.symm))
  refine ⟨hn,⟨B,W⟩,er,hc,hκ,?_,?_⟩
  ·(intro oi8; refine o0_3 oi8 fun _ f2 _=>?_)
   have fin:=all_fin F (st_dag T tb.length) D (rel_one (R:=fun a b=>(∃ h,FnH s' h a)∧∃ h,FnH s' h b) ⟨f2,f2.imp fun h q=>q.root er⟩) (stOf tb tb.length).nodes.size
   have hH:∀ a,a < s'.nodes.size→FnH s' s'.nodes.size a:=fun a ha=>by
    (refine o1_1 (fin a (by rw [← hn]; exact ha) (by rw [← hn]; exact ha)) fun h q=>?_)
    exact fin_size W hK' ha q
   refine ⟨fun a ha=>by have:=hH a (by rw [hsz]; exact ha); rw [hsz] at this; exact this,?_⟩
   have hS:Srt s' (kdN tb):=fun i hi=>by rw [hnd]; exact k1 i (by rw [← hn]; exact hi)
   have hNR:NoRig s':=fun i b n z=>by rw [hnd] at z; exact norig_st T i b n z
   have m':=mdl_tre (kdN tb) W hK' hc hH
   have rd:=fun i hi=>read_ok W hK' hS hκ hNR s'.nodes.size i hi (hH i hi)
   generalize ht:tre s' (kdN tb) s'.nodes.size = τ at m'
   have rd:∀ i,i < s'.nodes.size→kdN tb i = true→∃ r,RR s' r i∧τ i = embR Tm.v r∧hR r≤s'.nodes.size:=fun i hi=>by
    have:=(rd i hi).2
    rw [show tre s' (kdN tb) s'.nodes.size i = τ i from congrFun ht i] at this
    exact this
   refine o0_2 ((hm τ).mp m') fun m rl=>?_
   have re:=(rel_cons.mp rl).1
   (refine o1_3 (rd i (by rw [hsz]; exact lt1) (repR_kd a).2) fun r1 R1 T1 H1=>?_)
   (refine o1_3 (rd j' (by rw [hsz]; exact lt4) (repR_kd b').2) fun r2 R2 T2 H2=>?_)
   refine ⟨r1,r2,R1,R2,fun r s=>⟨fun hj=>?_,fun ⟨F',G',e1,e2⟩=>?_⟩⟩
   ·refine o1_4 (up r s hj) fun θ mθ rθ t1 t2=>?_
    have mθ':=(hm θ).mpr ⟨mθ,rθ⟩
    have fac:=fun i (hi:i < s'.nodes.size)=>mdl_factor (kdN tb) W hK' mθ' s'.nodes.size i hi (hH i hi)
    rw [ht] at fac
    have f1:=fac i (by rw [hsz]; exact lt1)
    have f2:=fac j' (by rw [hsz]; exact lt4)
    rw [T1,sub_embR,t1] at f1
    rw [T2,sub_embR,t2] at f2
    exact ⟨_,_,put_invR (.inl rfl) _ _ f1.symm,put_invR (.inl rfl) _ _ f2.symm⟩
   ·have mF:=mdl_sub (sbs Tm.v F' G') m
    have ct:=chiN_ok T cT (fun i=>(τ i).sub (sbs Tm.v F' G'))
    have cu:=chiN_ok T cU (fun i=>(τ i).sub (sbs Tm.v F' G'))
    have isRow:∀ i,i < s'.nodes.size→kdN tb i = true→∃ q,(τ i).sub (sbs Tm.v F' G') = embR Tm.v q:=fun i hi hk=>by
     refine o1_3 (rd i hi hk) fun r _ T' _=>?_
     refine ⟨r.put F' G',?_⟩
     rw [T',sub_embR,put_embR]
     rfl
    have vals:∀ (c:Nat→Int) (t:Row) (i:Nat),RepR c tb t i→ChiOk c tb (fun i=>(τ i).sub (sbs Tm.v F' G')) (chiN c tb (fun i=>(τ i).sub (sbs Tm.v F' G'))) →
      (τ i).sub (sbs Tm.v F' G') = embR Tm.v (t.put (fun n=>invT (chiN c tb (fun i=>(τ i).sub (sbs Tm.v F' G')) false n)) (fun n=>invR (chiN c tb (fun i=>(τ i).sub (sbs Tm.v F' G')) true n))):=fun c t i h cc=>by
     have e:=den_row mF cc _ _ h
     (refine o1_1 (isRow i (by rw [hsz]; exact (repR_kd h).1) (repR_kd h).2) fun q hq=>?_)
     rw [put_invR (.inl rfl) t q (e.symm.trans hq)]
     exact hq
    have x1:=vals cT _ _ a ct
    have x2:=vals cT _ _ b ct
    have y1:=vals cU _ _ a' cu
    have y2:=vals cU _ _ b' cu
    refine ⟨_,_,_,_,embR_inj (.inl rfl) (x1.symm.trans ?_),embR_inj (.inl rfl) (x2.symm.trans ?_),embR_inj (.inl rfl) (y2.symm.trans ?_)⟩
    ·rw [← e1,put_embR,T1,sub_embR]
     rfl
    ·rw [← y1,re]
    ·rw [← e2,put_embR,T2,sub_embR]
     rfl
  ·intro h r s hj
   refine o1_3 (up r s hj) fun τ m rl _=>?_
   have M:=(hm τ).mpr ⟨m,rl⟩
   exact h ⟨⟨_,mdl_fin W hK' M _ i (by rw [hsz]; exact lt1) (Nat.le_refl _)⟩,⟨_,mdl_fin W hK' M _ j (by rw [hsz]; exact lt2) (Nat.le_refl _)⟩,⟨_,mdl_fin W hK' M _ j' (by rw [hsz]; exact lt4) (Nat.le_refl _)⟩⟩
end Mi
namespace Mi
open Rs
def own (x:Nd):Nat:=match x with
 | .snoc _ _=>0
 | _=>1
def wSum (W:Nat→Option Nat) (l:List Nat):Nat:=(l.map fun c=>(W c).getD 0).sum
def wPut (W:Nat→Option Nat) (i n:Nat):Nat→Option Nat:=fun k=>if k = i then some n else W k
def lack (s:Store) (W:Nat→Option Nat) (i:Nat):List Nat:=(under (s.at_ i)).filter fun c=>(W c).isNone
def wgh (s:Store):Nat→(Nat→Option Nat)→List Nat→List Nat→Option (Nat→Option Nat)
 | _,W,_,[]=>some W
 | 0,_,_,_=>none
 | f + 1,W,E,i :: st =>
  if lack s W i = [] then wgh s f (wPut W i (wSum W (under (s.at_ i)) + own (s.at_ i))) E st
  else if i ∈ E then none
  else wgh s f W (E ++ [i]) ((lack s W i).reverse ++ i :: st)
inductive Desc (s:Store) (e:Nat):Nat→Prop where
 | kid {c:Nat}:c ∈ under (s.at_ e)→Desc s e c
 | step {x c:Nat}:Desc s e x→c ∈ under (s.at_ x)→Desc s e c
theorem Desc.fin {s:Store} {e x:Nat} (d:Desc s e x):∀ {h:Nat},FnH s h e→∃ h',h' < h∧FnH s h' x:=by
 induction d with
 | kid hc =>
  intro h hf
  cases h with
  | zero=>exact hf.elim
  | succ h=>exact ⟨h,by omega,hf _ hc⟩
 | step _ hc ih =>
  intro h hf
  refine o1_2 (ih hf) fun h' hl hf'=>?_
  cases h' with
  | zero=>exact hf'.elim
  | succ h'=>exact ⟨h',by omega,hf' _ hc⟩
theorem Desc.self {s:Store} {e:Nat} (d:Desc s e e):¬ ∃ h,FnH s h e:=fun ⟨h,hf⟩=>by
 refine o1_2 (FnH.least hf) fun m hm hmin=>?_
 refine o1_2 (d.fin hm) fun h' hl hf'=>?_
 exact hmin h' hl hf'
theorem lack_mem {s:Store} {W:Nat→Option Nat} {i c:Nat}:c ∈ lack s W i↔c ∈ under (s.at_ i)∧W c = none:=by
 unfold lack
 rw [List.mem_filter,Option.isNone_iff_eq_none]
theorem lack_nil {s:Store} {W:Nat→Option Nat} {i:Nat} (h:lack s W i = []):∀ c ∈ under (s.at_ i),∃ n,W c = some n:=fun c hc=>by
 cases e:W c with
 | some n=>exact ⟨n,rfl⟩
 | none =>
  have:c ∈ lack s W i:=lack_mem.mpr ⟨hc,e⟩
  rw [h] at this
  simp at this
theorem lack_len (s:Store) (W:Nat→Option Nat) (i:Nat):(lack s W i).length≤2:=by
 refine Nat.le_trans (List.length_filter_le _ _) ?_
 cases s.at_ i <;> simp [under]
theorem ws_1 {W:Nat→Option Nat} {a n:Nat} (h:W a = some n):wSum W [a] = n:=by
 show (W a).getD 0 + 0 = n
 rw [h]
 rfl
theorem ws_2 {W:Nat→Option Nat} {a b n m:Nat} (h:W a = some n) (g:W b = some m):wSum W [a,b] = n + m:=by
 show (W a).getD 0 + ((W b).getD 0 + 0) = n + m
 rw [h,g]
 rfl
theorem ws_p {W:Nat→Option Nat} {a b n m:Nat} (h:W a = some n) (g:W b = some m):1 + n + m = wSum W [a,b] + 1:=by rw [ws_2 h g,Nat.add_assoc,Nat.add_comm]
theorem wq_of {s:Store} {W:Nat→Option Nat} {i:Nat} (nr:∀ b n,s.at_ i≠.rigid b n) (hW:∀ k n,W k = some n→WQ s k n) (h:∀ c ∈ under (s.at_ i),∃ n,W c = some n):WQ s i (wSum W (under (s.at_ i)) + own (s.at_ i)):=by
 cases e:s.at_ i with
 | var=>exact .leaf e (.inr (.inr rfl))
 | rigid b n=>exact absurd e (nr b n)
 | num=>exact .leaf e (.inl rfl)
 | bool=>exact .leaf e (.inr (.inl rfl))
 | list a =>
  rw [e] at h
  refine o1_1 (h a (.head _)) fun n hn=>?_
  exact (show 1 + n = wSum W [a] + 1 by rw [ws_1 hn,Nat.add_comm]) ▸ WQ.list e (hW _ _ hn)
 | pair a b =>
  rw [e] at h
  refine o1_1 (h a (.head _)) fun n hn=>?_
  refine o1_1 (h b (.tail _ (.head _))) fun m hm=>?_
  exact ws_p hn hm ▸ WQ.pair e (hW _ _ hn) (hW _ _ hm)
 | fn a b =>
  rw [e] at h
  refine o1_1 (h a (.head _)) fun n hn=>?_
  refine o1_1 (h b (.tail _ (.head _))) fun m hm=>?_
  exact ws_p hn hm ▸ WQ.fn e (hW _ _ hn) (hW _ _ hm)
 | snoc a b =>
  rw [e] at h
  refine o1_1 (h a (.head _)) fun n hn=>?_
  refine o1_1 (h b (.tail _ (.head _))) fun m hm=>?_
  have q:=WQ.snoc e (hW _ _ hn) (hW _ _ hm)
  rw [← ws_2 hn hm] at q
  exact q
theorem fn_2 {s:Store} {i a b k l:Nat} (e:under (s.at_ i) = [a,b]) (hk:FnH s k a) (hl:FnH s l b):∃ k,FnH s k i :=
 ⟨max k l + 1,fun c hc=>by
  rw [e] at hc
  rcases List.mem_cons.mp hc with q | q
  ·rw [q]; exact hk.mono (Nat.le_max_left _ _)
  ·rw [List.mem_singleton.mp q]; exact hl.mono (Nat.le_max_right _ _)⟩
theorem WQ.fin {s:Store} {i n:Nat} (h:WQ s i n):∃ k,FnH s k i:=by
 induction h with
 | leaf e hx=>exact ⟨1,fun c hc=>by rw [e] at hc; rcases hx with rfl | rfl | rfl <;> exact nomatch hc⟩
 | list e _ ih =>
  refine o1_1 ih fun k hk=>?_
  exact ⟨k + 1,fun c hc=>by rw [e] at hc; rw [List.mem_singleton.mp hc]; exact hk⟩
 | pair e _ _ i1 i2=>exact i1.elim fun k hk=>i2.elim fun l hl=>fn_2 (by rw [e]; rfl) hk hl
 | fn e _ _ i1 i2=>exact i1.elim fun k hk=>i2.elim fun l hl=>fn_2 (by rw [e]; rfl) hk hl
 | snoc e _ _ i1 i2=>exact i1.elim fun k hk=>i2.elim fun l hl=>fn_2 (by rw [e]; rfl) hk hl
structure WInv (s:Store) (roots:List Nat) (W:Nat→Option Nat) (E st:List Nat):Prop where
 wq:∀ k n,W k = some n→WQ s k n
 cl:∀ k n,W k = some n→∀ c ∈ under (s.at_ k),W c≠none
 open_:∀ e ∈ E,W e = none→∃ above below,st = above ++ e :: below∧(∀ x ∈ above,Desc s e x)∧∀ c ∈ under (s.at_ e),W c≠none∨c ∈ above
 fin:(∀ r ∈ roots,∃ h,FnH s h r)→∀ x ∈ st,∃ h,FnH s h x
 rt:∀ r ∈ roots,W r≠none∨r ∈ st
 nd:E.Nodup
 eIn:∀ e ∈ E,e < s.nodes.size
 sIn:∀ x ∈ st,x < s.nodes.size
theorem wPut_at {W:Nat→Option Nat} {i n k:Nat} (e:k = i):wPut W i n k = some n:=if_pos e
theorem wPut_no {W:Nat→Option Nat} {i n k:Nat} (e:k≠i):wPut W i n k = W k:=if_neg e
theorem wPut_ne {W:Nat→Option Nat} {i n k:Nat} (h:k≠i→W k≠none):wPut W i n k≠none:=by
 by_cases e:k = i
 ·rw [wPut_at e]; exact Option.some_ne_none _
 ·rw [wPut_no e]; exact h e
theorem winv_put {s:Store} {roots E st:List Nat} {W:Nat→Option Nat} {i n:Nat} (I:WInv s roots W E (i :: st)) (hp:∀ c ∈ under (s.at_ i),∃ n,W c = some n) (q:WQ s i n):WInv s roots (wPut W i n) E st:=by
 refine ⟨fun k m e=>?_,fun k m e c hc=>wPut_ne fun _=>?_,fun e he hn=>?_,fun r x hx=>I.fin r x (List.mem_cons_of_mem _ hx),fun r hr=>?_,I.nd,I.eIn,fun x hx=>I.sIn x (List.mem_cons_of_mem _ hx)⟩
 ·by_cases ek:k = i
  ·rw [wPut_at ek] at e
   rw [ek,← Option.some.inj e]
   exact q
  ·rw [wPut_no ek] at e
   exact I.wq k m e
 ·by_cases ek:k = i
  ·rw [ek] at hc
   refine o1_1 (hp c hc) fun m hm=>?_
   rw [hm]
   exact Option.some_ne_none _
  ·rw [wPut_no ek] at e
   exact I.cl k m e c hc
 ·have hei:e≠i:=fun z=>Option.some_ne_none _ ((wPut_at z).symm.trans hn)
  refine o2_3 (I.open_ e he ((wPut_no hei).symm.trans hn)) fun ab be h1 h2 h3=>?_
  cases ab with
  | nil=>exact absurd (List.cons.inj h1).1.symm hei
  | cons a ab =>
   have h1:=List.cons.inj h1
   refine ⟨ab,be,h1.2,fun x hx=>h2 x (List.mem_cons_of_mem _ hx),fun c hc=>?_⟩
   rcases h3 c hc with z | z
   ·exact .inl (wPut_ne fun _=>z)
   ·rcases List.mem_cons.mp z with z | z
    ·exact .inl (wPut_ne fun y=>absurd (z.trans h1.1.symm) y)
    ·exact .inr z
 ·rcases I.rt r hr with z | z
  ·exact .inl (wPut_ne fun _=>z)
  ·rcases List.mem_cons.mp z with z | z
   ·exact .inl (wPut_ne fun y=>absurd z y)
   ·exact .inr z
theorem winv_open {s:Store} {roots E st:List Nat} {W:Nat→Option Nat} {i:Nat} (I:WInv s roots W E (i :: st)) (hE:i ∉ E) (kid:∀ c ∈ under (s.at_ i),c < s.nodes.size):WInv s roots W (E ++ [i]) ((lack s W i).reverse ++ i :: st):=by
 refine ⟨I.wq,I.cl,fun e he hn=>?_,fun r x hx=>?_,fun r hr=>(I.rt r hr).imp id (List.mem_append_right _),?_,fun e he=>?_,fun x hx=>?_⟩
 ·rcases List.mem_append.mp he with he | he
  ·refine o2_3 (I.open_ e he hn) fun ab be h1 h2 h3=>?_
   cases ab with
   | nil =>
    rw [← (List.cons.inj h1).1] at he
    exact absurd he hE
   | cons a ab =>
    have h1:=List.cons.inj h1
    have hd:=h2 a List.mem_cons_self
    rw [← h1.1] at hd
    refine ⟨(lack s W i).reverse ++ i :: ab,be,by rw [h1.2,List.append_assoc]; rfl,fun x hx=>?_,fun c hc=>?_⟩
    ·rcases List.mem_append.mp hx with hx | hx
     ·exact .step hd (lack_mem.mp (List.mem_reverse.mp hx)).1
     ·rcases List.mem_cons.mp hx with hx | hx
      ·rw [hx]; exact hd
      ·exact h2 x (List.mem_cons_of_mem _ hx)
    ·refine (h3 c hc).imp id fun z=>List.mem_append_right _ ?_
     rw [h1.1]
     exact z
  ·rw [List.mem_singleton.mp he]
   refine ⟨(lack s W i).reverse,st,rfl,fun x hx=>.kid (lack_mem.mp (List.mem_reverse.mp hx)).1,fun c hc=>?_⟩
   by_cases z:W c = none
   ·exact .inr (List.mem_reverse.mpr (lack_mem.mpr ⟨hc,z⟩))
   ·exact .inl z
 ·rcases List.mem_append.mp hx with hx | hx
  ·refine o1_1 (I.fin r i List.mem_cons_self) fun h hh=>?_
   refine o1_2 ((Desc.kid (lack_mem.mp (List.mem_reverse.mp hx)).1).fin hh) fun h' _ hh'=>?_
   exact ⟨h',hh'⟩
  ·exact I.fin r x hx
 ·rw [List.nodup_append]
  refine ⟨I.nd,List.pairwise_singleton _ i,fun a ha b hb z=>hE ?_⟩
  rw [← List.mem_singleton.mp hb,← z]
  exact ha
 ·rcases List.mem_append.mp he with he | he
  ·exact I.eIn e he
  ·rw [List.mem_singleton.mp he]; exact I.sIn i List.mem_cons_self
 ·rcases List.mem_append.mp hx with hx | hx
  ·exact kid x (lack_mem.mp (List.mem_reverse.mp hx)).1
  ·exact I.sIn x hx
theorem wgh_full {s:Store} {roots E:List Nat} {W:Nat→Option Nat} {i:Nat} {st:List Nat} (I:WInv s roots W E (i :: st)) (hl:lack s W i≠[]) (hE:i ∈ E):¬ ∀ r ∈ roots,∃ h,FnH s h r:=by
 intro hr
 have hWi:W i = none:=by
  cases e:W i with
  | none=>rfl
  | some n =>
   refine o1_1 (show ∃ c,c ∈ lack s W i from List.exists_mem_of_ne_nil _ hl) fun c hc=>?_
   exact absurd (lack_mem.mp hc).2 (I.cl i n e c (lack_mem.mp hc).1)
 refine o2_3 (I.open_ i hE hWi) fun ab be h1 h2 h3=>?_
 cases ab with
 | nil =>
  refine hl (List.eq_nil_iff_forall_not_mem.mpr fun c hc=>?_)
  refine o0_2 (lack_mem.mp hc) fun c1 c2=>?_
  rcases h3 c c1 with z | z
  ·exact z c2
  ·exact nomatch z
 | cons a ab =>
  have:=h2 a List.mem_cons_self
  rw [← (List.cons.inj h1).1] at this
  exact this.self (I.fin hr i List.mem_cons_self)
def WRes (s:Store) (roots:List Nat):Option (Nat→Option Nat)→Prop
 | none=>¬ ∀ r ∈ roots,∃ h,FnH s h r
 | some W'=>(∀ k n,W' k = some n→WQ s k n)∧∀ r ∈ roots,∃ n,W' r = some n
theorem wfuel {n st f E:Nat} (h:3 * n + (st + 1)≤f + 1 + 3 * E):3 * n + st≤f + 3 * E:=by
 rw [Nat.add_right_comm] at h
 exact Nat.le_of_succ_le_succ h
theorem wfuel2 {n st f E k:Nat} (hk:k≤2) (h:3 * n + (st + 1)≤f + 1 + 3 * E):3 * n + (k + (st + 1))≤f + 3 * (E + 1):=by
 rw [Nat.add_left_comm]
 exact Nat.le_trans (Nat.add_le_add hk h) (Nat.le_of_eq (by rw [Nat.add_comm 2,Nat.add_right_comm f 1]; rfl))
theorem wfuel0 {n st E:Nat} (hn:E≤n) (h:3 * n + (st + 1)≤0 + 3 * E):False:=by omega
theorem wgh_run {s:Store} {B:Nat} (Wf:WfS s B) (hK:KidsIn s) (hNR:NoRig s) {roots:List Nat}:∀ (f:Nat) (W:Nat→Option Nat) (E st:List Nat),WInv s roots W E st→3 * s.nodes.size + st.length≤f + 3 * E.length→WRes s roots (wgh s f W E st)
 | f,W,E,[],I,hf=>by
  have e:wgh s f W E [] = some W:=by cases f <;> rfl
  rw [e]
  refine ⟨I.wq,fun r hr=>?_⟩
  rcases I.rt r hr with q | q
  ·exact Option.ne_none_iff_exists'.mp q
  ·exact nomatch q
 | 0,W,E,i :: st,I,hf=>(wfuel0 (nodup_len _ E I.nd I.eIn) hf).elim
 | f + 1,W,E,i :: st,I,hf=>by
  have hi:=I.sIn i List.mem_cons_self
  by_cases hl:lack s W i = []
  ·have e:wgh s (f + 1) W E (i :: st) = wgh s f (wPut W i (wSum W (under (s.at_ i)) + own (s.at_ i))) E st:=if_pos hl
   rw [e]
   exact wgh_run Wf hK hNR f _ E st (winv_put I (lack_nil hl) (wq_of (fun b n=>hNR (s.root i) b n) I.wq (lack_nil hl))) (wfuel hf)
  ·by_cases hE:i ∈ E
   ·have e:wgh s (f + 1) W E (i :: st) = none:=(if_neg hl).trans (if_pos hE)
    rw [e]
    exact wgh_full I hl hE
   ·have e:wgh s (f + 1) W E (i :: st) = wgh s f W (E ++ [i]) ((lack s W i).reverse ++ i :: st):=(if_neg hl).trans (if_neg hE)
    rw [e]
    refine wgh_run Wf hK hNR f W (E ++ [i]) _ (winv_open I hE fun c hc=>by rw [at_nd] at hc; exact hK _ (Wf.root_lt hi) c hc) ?_
    rw [List.length_append,List.length_append,List.length_reverse]
    exact wfuel2 (lack_len s W i) hf
theorem wgh_ok {s:Store} {B:Nat} (Wf:WfS s B) (hK:KidsIn s) (hNR:NoRig s) {roots:List Nat} (f:Nat) (W:Nat→Option Nat) (E st:List Nat) (I:WInv s roots W E st) (hf:3 * s.nodes.size + st.length≤f + 3 * E.length) :
  match wgh s f W E st with
  | none=>¬ ∀ r ∈ roots,∃ h,FnH s h r
  | some W'=>(∀ k n,W' k = some n→WQ s k n)∧∀ r ∈ roots,∃ n,W' r = some n:=wgh_run Wf hK hNR f W E st I hf
end Mi
namespace Mi
open Rs
mutual
def PT (s:Store) (tb:List Nk):Ty→Nat→Prop
 | .num,i=>tb[s.root i]? = some (some .num,[0])
 | .bool,i=>tb[s.root i]? = some (some .bool,[0])
 | .var n,i=>s.root i = n∧∃ z,tb[n]? = some (some .ty,[z])
 | .list t,i=>∃ a:Nat,tb[s.root i]? = some (some .list,[(a:Int)])∧PT s tb t a
 | .pair t u,i=>∃ a b:Nat,tb[s.root i]? = some (some .pair,[(a:Int),(b:Int)])∧PT s tb t a∧PT s tb u b
 | .fn r q,i=>∃ a b:Nat,tb[s.root i]? = some (some .ob,[(a:Int),(b:Int)])∧PR s tb r a∧PR s tb q b
def PR (s:Store) (tb:List Nk):Row→Nat→Prop
 | .var n,i=>s.root i = n∧∃ z,tb[n]? = some (some .row,[z])
 | .snoc r t,i=>∃ a b:Nat,tb[s.root i]? = some (none,[(a:Int),(b:Int)])∧PR s tb r a∧PT s tb t b
end
theorem kdN_at {tb:List Nk} {i:Nat} {g:Sg} {l:List Int} (h:tb[i]? = some (g,l)):kdN tb i = (decide (g = some .row) || decide (g = none)):=by
 unfold kdN
 rw [h]
 cases g with
 | none=>rfl
 | some g=>cases g <;> rfl
section
variable {tb:List Nk} {s:Store} {B:Nat}
theorem at_tb (T:TbOk tb) (hn:s.nodes = (stOf tb tb.length).nodes) (W:WfS s B) {i:Nat} (hi:i < tb.length):∃ n,tb[s.root i]? = some n∧NdC tb tb.length (s.root i) n (s.at_ i):=by
 have hr:s.root i < tb.length:=by
  have:=W.root_lt (i:=i) (by rw [hn,st_size]; exact hi)
  rw [hn,st_size] at this
  exact this
 refine o1_2 (st_ndC T tb.length hr) fun n h1 h2=>?_
 refine ⟨n,h1,?_⟩
 have:s.at_ i = ndAt (stOf tb tb.length) (s.root i):=by rw [at_nd]; unfold ndAt; rw [hn]
 rw [this]
 exact h2
def AtI (tb:List Nk) (r:Nat):Nd→Prop
 | .num=>tb[r]? = some (some .num,[0])
 | .bool=>tb[r]? = some (some .bool,[0])
 | .var=>∃ k z,tb[r]? = some (some k,[z])∧k = if kdN tb r = true then Sy.row else Sy.ty
 | .list a=>tb[r]? = some (some .list,[(a:Int)])∧a < tb.length∧kdN tb a = false
 | .pair a b=>tb[r]? = some (some .pair,[(a:Int),(b:Int)])∧(a < tb.length∧kdN tb a = false)∧b < tb.length∧kdN tb b = false
 | .fn a b=>tb[r]? = some (some .ob,[(a:Int),(b:Int)])∧(a < tb.length∧kdN tb a = true)∧b < tb.length∧kdN tb b = true
 | .snoc a b=>tb[r]? = some (none,[(a:Int),(b:Int)])∧(a < tb.length∧kdN tb a = true)∧b < tb.length∧kdN tb b = false
 | .rigid _ _=>True
theorem at_of {tb:List Nk} {fx r:Nat} {n:Nk} {x:Nd} (h1:tb[r]? = some n) (h:NdC tb fx r n x):AtI tb r x:=by
 have hr:=(List.getElem?_eq_some_iff.mp h1).1
 cases h with
 | num=>exact h1
 | bool=>exact h1
 | tyV z=>exact ⟨_,z,h1,by rw [kdN_at h1]; rfl⟩
 | rowV z=>exact ⟨_,z,h1,by rw [kdN_at h1]; rfl⟩
 | tyR=>trivial
 | rowR=>trivial
 | list _ q1 q2=>exact ⟨h1,Nat.lt_trans q1 hr,q2⟩
 | _=>rename_i a b q1 q2 q3 q4; exact ⟨h1,⟨Nat.lt_trans q1 hr,q3⟩,Nat.lt_trans q2 hr,q4⟩
theorem at_x (T:TbOk tb) (hn:s.nodes = (stOf tb tb.length).nodes) (W:WfS s B) {i:Nat} (hi:i < tb.length) {x:Nd} (e:s.at_ i = x):AtI tb (s.root i) x:=by
 refine o1_2 (at_tb T hn W hi) fun n h1 h2=>?_
 rw [e] at h2
 exact at_of h1 h2
theorem at_v (T:TbOk tb) (hn:s.nodes = (stOf tb tb.length).nodes) (W:WfS s B) (hκ:∀ a,kdN tb a = kdN tb (s.root a)) {i m:Nat} {b:Bool} (hi:i < tb.length) (hk:kdN tb i = b) (h:s.at_ i = .var∧s.root i = m):s.root i = m∧∃ z,tb[m]? = some (some (if b = true then Sy.row else Sy.ty),[z]):=by
 refine o2_2 (at_x T hn W hi h.1) fun k z q e=>?_
 rw [← hκ,hk] at e
 exact ⟨h.2,z,by rw [← h.2,← e]; exact q⟩
mutual
theorem pt_of (T:TbOk tb) (hn:s.nodes = (stOf tb tb.length).nodes) (W:WfS s B) (hκ:∀ a,kdN tb a = kdN tb (s.root a)):∀ (t:Ty) (i:Nat),i < tb.length→kdN tb i = false→RT s t i→PT s tb t i
 | .num,i,hi,hk,h=>at_x T hn W hi h
 | .bool,i,hi,hk,h=>at_x T hn W hi h
 | .var m,i,hi,hk,h=>at_v T hn W hκ hi hk h
 | .list t,i,hi,hk,h=>by
  refine o1_2 h fun a e h=>?_
  have q:=at_x T hn W hi e
  exact ⟨a,q.1,pt_of T hn W hκ t a q.2.1 q.2.2 h⟩
 | .pair t u,i,hi,hk,h=>by
  refine o2_3 h fun a b e h h'=>?_
  have q:=at_x T hn W hi e
  exact ⟨a,b,q.1,pt_of T hn W hκ t a q.2.1.1 q.2.1.2 h,pt_of T hn W hκ u b q.2.2.1 q.2.2.2 h'⟩
 | .fn t u,i,hi,hk,h=>by
  refine o2_3 h fun a b e h h'=>?_
  have q:=at_x T hn W hi e
  exact ⟨a,b,q.1,pr_of T hn W hκ t a q.2.1.1 q.2.1.2 h,pr_of T hn W hκ u b q.2.2.1 q.2.2.2 h'⟩
theorem pr_of (T:TbOk tb) (hn:s.nodes = (stOf tb tb.length).nodes) (W:WfS s B) (hκ:∀ a,kdN tb a = kdN tb (s.root a)):∀ (t:Row) (i:Nat),i < tb.length→kdN tb i = true→RR s t i→PR s tb t i
 | .var m,i,hi,hk,h=>at_v T hn W hκ hi hk h
 | .snoc t u,i,hi,hk,h=>by
  refine o2_3 h fun a b e h h'=>?_
  have q:=at_x T hn W hi e
  exact ⟨a,b,q.1,pr_of T hn W hκ t a q.2.1.1 q.2.1.2 h,pt_of T hn W hκ u b q.2.2.1 q.2.2.2 h'⟩
end
end
def zt (tb:List Nk) (n:Nat):Int:=match tb[n]? with
 | some (_,z :: _)=>z
 | _=>0
mutual
def tkT (ζ:Nat→Int):Ty→List Tk
 | .num=>[(.num,0,0)]
 | .bool=>[(.bool,0,0)]
 | .var n=>[(.ty,ζ n,0)]
 | .list t=>(.list,0,0) :: (.op,0,0) :: (tkT ζ t ++ [(.cp,0,0)])
 | .pair a b=>(.pair,0,0) :: (.op,0,0) :: (tkT ζ a ++ (.cm,0,0) :: (tkT ζ b ++ [(.cp,0,0)]))
 | .fn r s=>(.ob,0,0) :: (tkR ζ r ++ (.to,0,0) :: (tkR ζ s ++ [(.cb,0,0)]))
def tkR (ζ:Nat→Int):Row→List Tk
 | .var n=>[(.row,ζ n,0)]
 | .snoc r t=>tkR ζ r ++ tkT ζ t
end
def tkE (ζ:Nat→Int) (r q:Row):List Tk:=tkR ζ r ++ (.to,0,0) :: tkR ζ q
mutual
theorem tk_ety:∀ t:Ty,(tkT cT t).map (fun x=>et x.1 x.2.1) = tTy t
 | .num=>rfl
 | .bool=>rfl
 | .var n=>by simp only [tkT,List.map_cons,List.map_nil,et_ty,cT_nat,tTy]
 | .list t=>by simp only [tkT,List.map_cons,List.map_nil,List.map_append,tk_ety t,tTy]; rfl
 | .pair a b=>by simp only [tkT,List.map_cons,List.map_nil,List.map_append,tk_ety a,tk_ety b,tTy]; rfl
 | .fn a b=>by simp only [tkT,List.map_cons,List.map_nil,List.map_append,tk_erow a,tk_erow b,tTy]; rfl
theorem tk_erow:∀ t:Row,(tkR cT t).map (fun x=>et x.1 x.2.1) = tRow t
 | .var n=>by simp only [tkR,List.map_cons,List.map_nil,et_row,cT_nat,tRow]
 | .snoc a b=>by simp only [tkR,List.map_append,tk_erow a,tk_ety b,tRow]
end
theorem fa_nil {α:Type} {P:α→Prop}:∀ x ∈ ([]:List α),P x:=fun _ h=>nomatch h
theorem fa_cons {α:Type} {P:α→Prop} {a:α} {l:List α} (h:P a) (g:∀ x ∈ l,P x):∀ x ∈ a :: l,P x:=List.forall_mem_cons.mpr ⟨h,g⟩
theorem fa_app {α:Type} {P:α→Prop} {k l:List α} (h:∀ x ∈ k,P x) (g:∀ x ∈ l,P x):∀ x ∈ k ++ l,P x:=fun x q=>(List.mem_append.mp q).elim (h x) (g x)
mutual
theorem tk_goodT (ζ:Nat→Int):∀ t:Ty,∀ x ∈ tkT ζ t,okK x.1 = true
 | .num=>fa_cons rfl fa_nil
 | .bool=>fa_cons rfl fa_nil
 | .var n=>fa_cons rfl fa_nil
 | .list t=>fa_cons rfl (fa_cons rfl (fa_app (tk_goodT ζ t) (fa_cons rfl fa_nil)))
 | .pair a b=>fa_cons rfl (fa_cons rfl (fa_app (tk_goodT ζ a) (fa_cons rfl (fa_app (tk_goodT ζ b) (fa_cons rfl fa_nil)))))
 | .fn a b=>fa_cons rfl (fa_app (tk_goodR ζ a) (fa_cons rfl (fa_app (tk_goodR ζ b) (fa_cons rfl fa_nil))))
theorem tk_goodR (ζ:Nat→Int):∀ t:Row,∀ x ∈ tkR ζ t,okK x.1 = true
 | .var n=>fa_cons rfl fa_nil
 | .snoc a b=>fa_app (tk_goodR ζ a) (tk_goodT ζ b)
end
theorem tk_goodE (ζ:Nat→Int) (r q:Row):∀ x ∈ tkE ζ r q,okK x.1 = true:=fa_app (tk_goodR ζ r) (fa_cons rfl (tk_goodR ζ q))
theorem len_2 {a b x y:Nat} (h:a≤6 * x) (g:b≤6 * y):a + b≤6 * (x + y):=by rw [Nat.mul_add]; exact Nat.add_le_add h g
theorem len_p {α:Type} {k l:List α} {x y:Nat} (c d:α) (h:k.length≤6 * x) (g:l.length≤6 * y):(k ++ c :: (l ++ [d])).length + 2≤6 * (1 + x + y):=by
 rw [List.length_append,List.length_cons,List.length_append,List.length_singleton]
 omega
mutual
theorem tk_lenT (ζ:Nat→Int):∀ t:Ty,(tkT ζ t).length≤6 * t.weight
 | .num=>of_decide_eq_true rfl
 | .bool=>of_decide_eq_true rfl
 | .var n=>of_decide_eq_true rfl
 | .list t=>by
  show (tkT ζ t ++ [_]).length + 1 + 1≤6 * (1 + t.weight)
  rw [List.length_append,Nat.add_assoc,Nat.add_assoc,Nat.add_comm]
  exact len_2 (of_decide_eq_true rfl) (tk_lenT ζ t)
 | .pair a b=>len_p _ _ (tk_lenT ζ a) (tk_lenT ζ b)
 | .fn a b=>Nat.le_trans (Nat.le_succ _) (len_p _ _ (tk_lenR ζ a) (tk_lenR ζ b))
theorem tk_lenR (ζ:Nat→Int):∀ t:Row,(tkR ζ t).length≤6 * t.weight
 | .var n=>of_decide_eq_true rfl
 | .snoc a b=>by
  show (tkR ζ a ++ tkT ζ b).length≤_
  rw [List.length_append]
  exact len_2 (tk_lenR ζ a) (tk_lenT ζ b)
end
theorem idxZ_rn {φ:Int→Int} {z:Int}:∀ l:List Int,(∀ x ∈ l,φ x = φ z→x = z)→idxZ (l.map φ) (φ z) = idxZ l z
 | [],_=>rfl
 | x :: l,h=>by
  simp only [List.map_cons,idxZ]
  by_cases e:x = z
  ·rw [if_pos e,if_pos (by rw [e])]
  ·rw [if_neg e,if_neg (fun q=>e (h x (by simp) q)),idxZ_rn l fun y hy=>h y (by simp [hy])]
theorem addZ_rn {φ:Int→Int} {z:Int} (l:List Int) (h:∀ x ∈ l,φ x = φ z→x = z):addZ (l.map φ) (φ z) = (addZ l z).map φ:=by
 unfold addZ
 by_cases e:z ∈ l
 ·rw [if_pos e,if_pos (List.mem_map_of_mem e)]
 ·rw [if_neg e,if_neg fun q=>by
   refine o1_2 (List.mem_map.mp q) fun x hx ex=>?_
   exact e (h x hx ex ▸ hx)]
  simp
theorem nmP_rn {φ:Sy→Int→Int} {A:Sy→Int→Prop} (hA:∀ k x y,A k x→A k y→φ k x = φ k y→x = y):∀ (ts:List Tk) (o:Sy→List Int),(∀ x ∈ ts,A x.1 x.2.1)→(∀ k,∀ z ∈ o k,A k z) →
  nmP (fun k=>(o k).map (φ k)) (ts.map fun x=>(x.1,φ x.1 x.2.1,x.2.2)) = nmP o ts
 | [],_,_,_=>rfl
 | x :: ts,o,h,ho=>by
  have hx:=h x (by simp)
  have inj:∀ y ∈ o x.1,φ x.1 y = φ x.1 x.2.1→y = x.2.1:=fun y hy q=>hA _ _ _ (ho _ y hy) hx q
  have e:putO (fun k=>(o k).map (φ k)) x.1 (φ x.1 x.2.1) = fun k=>(putO o x.1 x.2.1 k).map (φ k):=by
   funext k
   unfold putO
   by_cases q:k = x.1
   ·subst q; rw [if_pos rfl,if_pos rfl,addZ_rn _ inj]
   ·rw [if_neg q,if_neg q]
  simp only [List.map_cons,nmP]
  rw [idxZ_rn _ inj,e,nmP_rn hA ts _ (fun y hy=>h y (by simp [hy])) fun k z hz=>?_]
  unfold putO at hz
  split at hz
  ·rename_i q
   subst q
   unfold addZ at hz
   split at hz
   ·exact ho _ z hz
   ·rcases List.mem_append.mp hz with w | w
    ·exact ho _ z w
    ·rw [List.mem_singleton.mp w]; exact hx
  ·exact ho k z hz
def phi (ζ:Nat→Int) (k:Sy) (z:Int):Int:=if k = .row∨k = .ty then ζ z.toNat else z
mutual
theorem tk_rnT (ζ:Nat→Int):∀ t:Ty,(tkT cT t).map (fun x=>(x.1,phi ζ x.1 x.2.1,x.2.2)) = tkT ζ t
 | .num=>rfl
 | .bool=>rfl
 | .var n=>by simp only [tkT,List.map_cons,List.map_nil,phi,cT_nat]; rfl
 | .list t=>by simp only [tkT,List.map_cons,List.map_nil,List.map_append,tk_rnT ζ t]; rfl
 | .pair a b=>by simp only [tkT,List.map_cons,List.map_nil,List.map_append,tk_rnT ζ a,tk_rnT ζ b]; rfl
 | .fn a b=>by simp only [tkT,List.map_cons,List.map_nil,List.map_append,tk_rnR ζ a,tk_rnR ζ b]; rfl
theorem tk_rnR (ζ:Nat→Int):∀ t:Row,(tkR cT t).map (fun x=>(x.1,phi ζ x.1 x.2.1,x.2.2)) = tkR ζ t
 | .var n=>by simp only [tkR,List.map_cons,List.map_nil,phi,cT_nat]; rfl
 | .snoc a b=>by simp only [tkR,List.map_append,tk_rnR ζ a,tk_rnT ζ b]
end
def NmA (tb:List Nk) (k:Sy) (z:Int):Prop:=0≤z∧((k = .row∨k = .ty)→tb[z.toNat]? = some (some k,[zt tb z.toNat]))
theorem zt_at {tb:List Nk} {n:Nat} {g:Sg} {z:Int} (h:tb[n]? = some (g,[z])):zt tb n = z:=by
 unfold zt
 rw [h]
theorem nmA_v {tb:List Nk} {n:Nat} {k:Sy} (h:∃ z,tb[n]? = some (some k,[z])):NmA tb k (cT n):=by
 (refine o1_1 h fun z e=>?_; try clear h)
 refine ⟨Int.natCast_nonneg _,fun _=>?_⟩
 rw [cT_nat,e,zt_at e]
theorem nmA_0 (tb:List Nk) {k:Sy} (h:decide (k = .row∨k = .ty) = false):NmA tb k 0:=⟨Int.le_refl _,fun q=>absurd q (of_decide_eq_false h)⟩
mutual
theorem nmA_ty {s:Store} {tb:List Nk}:∀ (t:Ty) (i:Nat),PT s tb t i→∀ x ∈ tkT cT t,NmA tb x.1 x.2.1
 | .num,i,_=>fa_cons (nmA_0 tb rfl) fa_nil
 | .bool,i,_=>fa_cons (nmA_0 tb rfl) fa_nil
 | .var n,i,h=>fa_cons (nmA_v h.2) fa_nil
 | .list t,i,h=>by
  (refine o1_2 h fun a _ p=>?_; try clear h)
  exact fa_cons (nmA_0 tb rfl) (fa_cons (nmA_0 tb rfl) (fa_app (nmA_ty t a p) (fa_cons (nmA_0 tb rfl) fa_nil)))
 | .pair t u,i,h=>by
  (refine o2_3 h fun a b _ p q=>?_; try clear h)
  exact fa_cons (nmA_0 tb rfl) (fa_cons (nmA_0 tb rfl) (fa_app (nmA_ty t a p) (fa_cons (nmA_0 tb rfl) (fa_app (nmA_ty u b q) (fa_cons (nmA_0 tb rfl) fa_nil)))))
 | .fn t u,i,h=>by
  (refine o2_3 h fun a b _ p q=>?_; try clear h)
  exact fa_cons (nmA_0 tb rfl) (fa_app (nmA_row t a p) (fa_cons (nmA_0 tb rfl) (fa_app (nmA_row u b q) (fa_cons (nmA_0 tb rfl) fa_nil))))
theorem nmA_row {s:Store} {tb:List Nk}:∀ (t:Row) (i:Nat),PR s tb t i→∀ x ∈ tkR cT t,NmA tb x.1 x.2.1
 | .var n,i,h=>fa_cons (nmA_v h.2) fa_nil
 | .snoc t u,i,h=>by
  (refine o2_3 h fun a b _ p q=>?_; try clear h)
  exact fa_app (nmA_row t a p) (nmA_ty u b q)
end
theorem then_text {s:Store} {tb:List Nk} (T:TbOk tb) {r q:Row} {i j:Nat} (a:PR s tb r i) (b:PR s tb q j):toI (nEff ⟨r,q⟩).text = wrP true (nmP o0 (tkE (zt tb) r q)):=by
 have hA:∀ x ∈ tkE cT r q,NmA tb x.1 x.2.1:=fa_app (nmA_row r i a) (fa_cons (nmA_0 tb rfl) (nmA_row q j b))
 have e1:(tkE cT r q).map (fun x=>(x.1,phi (zt tb) x.1 x.2.1,x.2.2)) = tkE (zt tb) r q:=by
  simp only [tkE,List.map_append,List.map_cons,tk_rnR]
  rfl
 have e2:nmP o0 (tkE (zt tb) r q) = nmP o0 (tkE cT r q):=by
  rw [← e1]
  refine nmP_rn (φ:=phi (zt tb)) (A:=NmA tb) (fun k x y hx hy e=>?_) (tkE cT r q) o0 hA fun k z hz=>by simp [o0] at hz
  unfold phi at e
  split at e
  ·rename_i hk
   have h1:=hx.2 hk
   have h2:=hy.2 hk
   rw [← e] at h2
   have hl:=(List.getElem?_eq_some_iff.mp h1).1
   have:=(List.getElem?_inj hl T.nd).mp (h1.trans h2.symm)
   have:=hx.1
   have:=hy.1
   omega
  ·exact e
 have e3:(tkE cT r q).map (fun x=>et x.1 x.2.1) = tEff ⟨r,q⟩:=by
  simp only [tkE,List.map_append,List.map_cons,tk_erow,tEff]
  rfl
 have g:∀ x ∈ tkE cT r q,okK x.1 = true∧0≤x.2.1:=fun x h=>⟨tk_goodE cT r q x h,(hA x h).1⟩
 rw [e2,← wr_et _ true (nmP_ok _ o0 fun x h=>(g x h).1),← nm_et _ o0 ⟨[],[]⟩ g ⟨rfl,rfl,fun y h=>by simp [o0] at h,fun y h=>by simp [o0] at h⟩,e3,n_eff,wr_eff]
theorem then_eq {l m:List Int} (h:InB l) (h2:InB m):match refusals [l,m] with
  | some r=>PyWqacdo.then_ l m = r
  | none=>∃ x y,(toks 0 l).map (fun y=>et y.1 y.2.1) = tEff x∧(toks 0 m).map (fun y=>et y.1 y.2.1) = tEff y∧(∀ z ∈ toks 0 l,okK z.1 = true∧0≤z.2.1)∧(∀ z ∈ toks 0 m,okK z.1 = true∧0≤z.2.1)∧PyWqacdo.then_ l m = match following x y with
   | none=>[1]
   | some none=>[-5]
   | some (some E)=>0 :: ((toI E.text).length:Int) :: toI E.text:=by
 have e0:EffectsNeutral.callOf [[4],l,m] = some (.then_ (l.map bt) (m.map bt)):=by
  show (match text? l,text? m with
   | some x,some y=>some (Effects.Call.then_ x y)
   | _,_=>none) = _
  rw [text_of h,text_of h2]
 have e1:PyWqacdo.then_ l m = (Effects.step EffectsNeutral.start (.then_ (l.map bt) (m.map bt))).2.nums:=by
  unfold PyWqacdo.then_ EffectsNeutral.step
  rw [e0]
 rw [e1]
 simp only [Effects.step,Effects.answerTo,Effects.long,Effects.TEXT,List.length_map,decide_eq_true_eq,refusals]
 by_cases hl:1024 < l.length∨1024 < m.length
 ·rw [if_pos hl,if_pos (by simpa using hl)]
  rfl
 ·rw [if_neg hl,if_neg (by simpa using hl)]
  unfold Effects.ofText
  simp only [faults]
  cases q:fault l with
  | some p=>rw [no_eff h q]; rfl
  | none =>
   refine o1_3 (eff_of h q) fun x e ht hk=>?_
   rw [e]
   cases q2:fault m with
   | some p=>simp only []; rw [no_eff h2 q2]; rfl
   | none =>
    refine o1_3 (eff_of h2 q2) fun y e' ht' hk'=>?_
    simp only []
    rw [e']
    refine ⟨x,y,ht,ht',hk,hk',?_⟩
    simp only []
    cases following x y with
    | none=>rfl
    | some z =>
     cases z with
     | none=>rfl
     | some E =>
      simp only [Effects.ofForm,tells,Answer.nums,Item.nums,List.flatMap_cons,List.flatMap_nil,List.append_nil,toI,List.length_map]
def wStart:Nat→Option Nat:=fun _=>none
theorem then_fin {tb:List Nk} (T:TbOk tb) {i j i' j' f g:Nat} {d e:Effect} (a:RepR cT tb d.before i) (b:RepR cT tb d.behind j) (a':RepR cU tb e.before i') (b':RepR cU tb e.behind j') (hf:2 * nrs (stOf tb tb.length) + 1≤f) (hg:3 * tb.length + 3≤g) :
  match eqAll f (stOf tb tb.length) [(j,i')] with
  | none=>following d e = none
  | some s'=>s'.nodes = (stOf tb tb.length).nodes∧(∃ B,WfS s' B)∧match wgh s' g wStart [] [j',j,i] with
   | none=>following d e = none
   | some W=>∃ w1 w2,W i = some w1∧W j' = some w2∧(120 < w1 + w2→following d e = some none)∧(¬ 120 < w1 + w2→∃ r1 r2 E,PR s' tb r1 i∧PR s' tb r2 j'∧r1.weight + r2.weight≤120∧following d e = some (some E)∧toI E.text = wrP true (nmP o0 (tkE (zt tb) r1 r2))):=by
 have S:=then_ok T a b a' b' hf
 have sp:=then_spec d e
 have no:(∀ r s,¬ Joins d e r s)→following d e = none:=fun h=>by
  rcases sp with q | ⟨E,hE,_⟩
  ·exact q.1
  ·exact absurd ((hE E.before E.behind).mpr ⟨Ty.var,Row.var,put_selfR _,put_selfR _⟩) (h _ _)
 cases q:eqAll f (stOf tb tb.length) [(j,i')] with
 | none =>
  rw [q] at S
  exact no S
 | some s' =>
  rw [q] at S
  (refine o0_7 S fun hn y16_1 er hc hκ hfin hno=>?_; try clear S; refine o1_1 y16_1 fun B W=>?_; try clear y16_1)
  refine ⟨hn,⟨B,W⟩,?_⟩
  have hsz:s'.nodes.size = tb.length:=by rw [hn,st_size]
  have hK':KidsIn s':=by
   have hK:=(st_dag T tb.length).kids
   unfold KidsIn ndAt at hK ⊢
   rw [hn]
   exact hK
  have hnd:∀ i,ndAt s' i = ndAt (stOf tb tb.length) i:=fun i=>by unfold ndAt; rw [hn]
  have hNR:NoRig s':=fun i b n z=>by rw [hnd] at z; exact norig_st T i b n z
  have lt1:=(repR_kd a).1
  have lt2:=(repR_kd b).1
  have lt4:=(repR_kd b').1
  have w:=wgh_ok (roots:=[j',j,i]) W hK' hNR g wStart [] [j',j,i] ⟨fun k n z=>by simp [wStart] at z,fun k n z=>by simp [wStart] at z,fun e he=>by simp at he,fun h=>h,fun r hr=>.inr hr,by simp,fun e he=>by simp at he,fun x hx=>by
   simp only [List.mem_cons,List.not_mem_nil,or_false] at hx
   rw [hsz]
   rcases hx with rfl | rfl | rfl
   ·exact lt4
   ·exact lt2
   ·exact lt1⟩ (by rw [hsz]; simp only [List.length_cons,List.length_nil]; omega)
  cases qw:wgh s' g wStart [] [j',j,i] with
  | none =>
   rw [qw] at w
   refine no (hno fun ⟨z1,z2,z3⟩=>w fun r hr=>?_)
   simp only [List.mem_cons,List.not_mem_nil,or_false] at hr
   rcases hr with rfl | rfl | rfl
   ·exact z3
   ·exact z2
   ·exact z1
  | some W' =>
   rw [qw] at w
   (refine o0_2 w fun wq wr=>?_; try clear w)
   refine o1_1 (wr i (by simp)) fun w1 e1=>?_
   refine o1_1 (wr j (by simp)) fun w0 e0=>?_
   refine o1_1 (wr j' (by simp)) fun w2 e2=>?_
   obtain ⟨_,r1,r2,R1,R2,M⟩:=hfin ⟨(wq _ _ e1).fin,(wq _ _ e0).fin,(wq _ _ e2).fin⟩
   have x1:w1 = r1.weight:=(wq _ _ e1).uniq (wq_row _ _ R1)
   have x2:w2 = r2.weight:=(wq _ _ e2).uniq (wq_row _ _ R2)
   obtain ⟨E,hE,hfo⟩:∃ E,MostGen d e E∧following d e = some (if 120 < E.weight then none else some (nEff E)):=by
    rcases sp with q | q
    ·exact absurd ((M r1 r2).mpr ⟨Ty.var,Row.var,put_selfR _,put_selfR _⟩) (q.2 _ _)
    ·exact q
   refine o0_2 (mostgen_one hE M) fun o1 o2=>?_
   have ow:E.weight = w1 + w2:=by rw [o2,x1,x2]; rfl
   refine ⟨w1,w2,e1,e2,fun h=>?_,fun h=>?_⟩
   ·rw [hfo,if_pos (by rw [ow]; exact h)]
   ·have p1:=pr_of T hn W hκ r1 i lt1 (repR_kd a).2 R1
    have p2:=pr_of T hn W hκ r2 j' lt4 (repR_kd b').2 R2
    refine ⟨r1,r2,nEff E,p1,p2,by omega,by rw [hfo,if_neg (by rw [ow]; exact h)],?_⟩
    rw [text_of_toks o1]
    exact then_text T p1 p2
end Mi
namespace Mi
open Rs
def leafS (g:Sg):Bool:=decide (g = some .row) || decide (g = some .ty) || decide (g = some .num) || decide (g = some .bool)
def zipN (l m:List Int):List (Nat × Nat):=(l.zip m).map fun p=>(p.1.toNat,p.2.toNat)
def RigOk (fx:Nat) (tb:List Nk):Prop:=∀ i z,¬ i < fx→tb[i]? = some (some .ty,[z])∨tb[i]? = some (some .row,[z])→z < 0
theorem rig_len (tb:List Nk):RigOk tb.length tb:=fun i z hi h=>by
 rcases h with h | h <;> exact absurd (List.getElem?_eq_some_iff.mp h).1 hi
def Sh (l:List Int) (y:Nd):Sg→Prop
 | some .list=>∃ a:Nat,l = [(a:Int)]∧y = .list a
 | some .pair=>∃ a b:Nat,l = [(a:Int),(b:Int)]∧y = .pair a b
 | some .ob=>∃ a b:Nat,l = [(a:Int),(b:Int)]∧y = .fn a b
 | none=>∃ a b:Nat,l = [(a:Int),(b:Int)]∧y = .snoc a b
 | some k=>leafS (some k) = true
theorem ndC_sh {tb:List Nk} {fx j:Nat} {m:Nk} {y:Nd} (h:NdC tb fx j m y):Sh m.2 y m.1:=by
 cases h <;> first
  | rfl
  | exact ⟨_,rfl,rfl⟩
  | exact ⟨_,_,rfl,rfl⟩
def NdInv (fx i:Nat) (n:Nk):Nd→Prop
 | .var=>True
 | .rigid b k=>¬ i < fx∧∃ z:Int,n = (some (if b = true then Sy.row else Sy.ty),[z])∧k = (-1 - z).toNat
 | .num=>n = (some .num,[0])
 | .bool=>n = (some .bool,[0])
 | .list a=>n.1 = some .list
 | .pair a b=>n.1 = some .pair
 | .fn a b=>n.1 = some .ob
 | .snoc a b=>n.1 = none
theorem ndC_inv {tb:List Nk} {fx i:Nat} {n:Nk} {x:Nd} (h:NdC tb fx i n x):NdInv fx i n x:=by
 cases h with
 | tyV=>trivial
 | rowV=>trivial
 | tyR z q=>exact ⟨q,z,rfl,rfl⟩
 | rowR z q=>exact ⟨q,z,rfl,rfl⟩
 | _=>rfl
theorem part_no {g:Sg} {n m:Nk} (hg:leafS g = false) (a:n.1 = g) (b:m.1 = g) (h:n.1≠m.1∨leafS n.1 = true):False :=
 h.elim (fun q=>q (a.trans b.symm)) fun q=>by rw [a,hg] at q; cases q
theorem ints_of {a:Nat}:∀ x ∈ [(a:Int)],∃ b:Nat,x = (b:Int):=fun x hx=>⟨a,List.mem_singleton.mp hx⟩
theorem ints_of2 {a c:Nat}:∀ x ∈ [(a:Int),(c:Int)],∃ b:Nat,x = (b:Int):=fun x hx=>by
 rcases List.mem_cons.mp hx with q | q
 ·exact ⟨a,q⟩
 ·exact ints_of x q
theorem tn_inj {z z':Int} (h:z < 0) (h':z' < 0) (e:(-1 - z).toNat = (-1 - z').toNat):z = z':=by
 have q:∀ {x:Int},x < 0→((-1 - x).toNat:Int) = -1 - x:=fun {x} h=>Int.toNat_of_nonneg (Int.sub_nonneg_of_le (Int.le_sub_one_of_lt h))
 have:=q h
 rw [e,q h'] at this
 exact ((Int.sub_right_inj _).mp this).symm
theorem rig_eq {tb:List Nk} {fx i j k:Nat} {c:Bool} (R:RigOk fx tb) {n m:Nk} (hi:tb[i]? = some n) (hj:tb[j]? = some m) (ia:NdInv fx i n (.rigid c k)) (ib:NdInv fx j m (.rigid c k)):n = m:=by
 obtain ⟨q1,z,e1,k1⟩:=ia
 obtain ⟨q2,z',e2,k2⟩:=ib
 have hz:∀ (i:Nat) (z:Int),tb[i]? = some (some (if c = true then Sy.row else Sy.ty),[z])→¬ i < fx→z < 0:=fun i z h q=>R i z q (by
  cases c
  ·exact .inl h
  ·exact .inr h)
 rw [e1] at hi
 rw [e2] at hj
 rw [e1,e2,tn_inj (hz i z hi q1) (hz j z' hj q2) (k1.symm.trans k2)]
theorem al_none {tb:List Nk} {fx i j:Nat} (R:RigOk fx tb) {n m:Nk} (hi:tb[i]? = some n) (hj:tb[j]? = some m) (ne:n≠m) {x y:Nd} (ia:NdInv fx i n x) (ib:NdInv fx j m y) (h:n.1≠m.1∨leafS n.1 = true):alike x y = none:=by
 cases e:alike x y with
 | none=>rfl
 | some k =>
  exfalso
  cases al_of e with
  | rigid c k=>exact ne (rig_eq R hi hj ia ib)
  | num=>exact ne (Eq.trans ia (Eq.symm ib))
  | bool=>exact ne (Eq.trans ia (Eq.symm ib))
  | _=>exact part_no rfl ia ib h
def ZipOk (l l':List Int) (x y:Nd):Prop:=alike x y = some (zipN l l')∧l.length = l'.length∧l≠[]∧l.length≤2∧(∀ x ∈ l,∃ a:Nat,x = (a:Int))∧∀ x ∈ l',∃ a:Nat,x = (a:Int)
theorem zip_two {l l':List Int} {x y:Nd} (c:Nat→Nat→Nd) (hc:∀ a b c' d,alike (c a b) (c c' d) = some [(a,c'),(b,d)]) (h:∃ a b:Nat,l = [(a:Int),(b:Int)]∧x = c a b) (h':∃ a b:Nat,l' = [(a:Int),(b:Int)]∧y = c a b):ZipOk l l' x y:=by
 (refine o2_2 h fun a b e q=>?_; try clear h)
 (refine o2_2 h' fun a' b' e' q'=>?_; try clear h')
 rw [e,q,e',q']
 exact ⟨hc a b a' b',rfl,List.cons_ne_nil _ _,Nat.le_refl _,ints_of2,ints_of2⟩
theorem zip_one {l l':List Int} {x y:Nd} (h:∃ a:Nat,l = [(a:Int)]∧x = .list a) (h':∃ a:Nat,l' = [(a:Int)]∧y = .list a):ZipOk l l' x y:=by
 (refine o1_2 h fun a e q=>?_; try clear h)
 (refine o1_2 h' fun a' e' q'=>?_; try clear h')
 rw [e,q,e',q']
 exact ⟨rfl,rfl,List.cons_ne_nil _ _,Nat.le_succ _,ints_of,ints_of⟩
theorem zip_sh {l l':List Int} {x y:Nd} {g:Sg} (hl:leafS g = false) (sa:Sh l x g) (sb:Sh l' y g):ZipOk l l' x y:=by
 cases g with
 | none=>exact zip_two .snoc (fun _ _ _ _=>rfl) sa sb
 | some k=>cases k <;> first
  | exact absurd (hl.symm.trans sa) Bool.false_ne_true
  | exact zip_two .pair (fun _ _ _ _=>rfl) sa sb
  | exact zip_two .fn (fun _ _ _ _=>rfl) sa sb
  | exact zip_one sa sb
theorem alike_tb {tb:List Nk} (T:TbOk tb) {fx i j:Nat} (R:RigOk fx tb) {n m:Nk} (hi:tb[i]? = some n) (hj:tb[j]? = some m) (hij:i≠j) (vi:Rs.isVar (ndI fx i n) = false) (vj:Rs.isVar (ndI fx j m) = false) :
  (n.1≠m.1∨leafS n.1 = true→alike (ndI fx i n) (ndI fx j m) = none)∧(n.1 = m.1→leafS n.1 = false→alike (ndI fx i n) (ndI fx j m) = some (zipN n.2 m.2)∧n.2.length = m.2.length∧n.2≠[]∧n.2.length≤2∧(∀ x ∈ n.2,∃ a:Nat,x = (a:Int))∧∀ x ∈ m.2,∃ a:Nat,x = (a:Int)):=by
 have ne:n≠m:=fun e=>by
  rw [← e] at hj
  exact hij ((List.getElem?_inj (List.getElem?_eq_some_iff.mp hi).1 T.nd).mp (hi.trans hj.symm))
 have a:=ndC (T.ok i n hi) fx
 have b:=ndC (T.ok j m hj) fx
 refine ⟨al_none R hi hj ne (ndC_inv a) (ndC_inv b),fun h hl=>zip_sh hl (ndC_sh a) ?_⟩
 rw [h]
 exact ndC_sh b
inductive Pc where
 | s (k:Sy)
 | n (i:Nat)
def spS (a b:Nat):Sg→List Pc
 | none=>[.n a,.n b]
 | some .list=>[.s .list,.s .op,.n a,.s .cp]
 | some .pair=>[.s .pair,.s .op,.n a,.s .cm,.n b,.s .cp]
 | some .ob=>[.s .ob,.n a,.s .to,.n b,.s .cb]
 | some _=>[]
def spell (n:Nk):List Pc:=spS (n.2.headD 0).toNat (n.2.tail.headD 0).toNat n.1
mutual
def mT:Ty→Nat
 | .list t=>4 + mT t
 | .pair a b=>5 + mT a + mT b
 | .fn a b=>4 + mR a + mR b
 | _=>1
def mR:Row→Nat
 | .var _=>1
 | .snoc a b=>1 + mR a + mT b
end
def PcT (s:Store) (tb:List Nk):Pc→List Tk→Nat→Prop
 | .s k,ts,m=>goodK k = true∧ts = [(k,0,0)]∧m = 1
 | .n i,ts,m=>(∃ t,PT s tb t i∧ts = tkT (zt tb) t∧m = mT t)∨∃ r,PR s tb r i∧ts = tkR (zt tb) r∧m = mR r
inductive StP (s:Store) (tb:List Nk):List Pc→List Tk→Nat→Prop where
 | nil:StP s tb [] [] 0
 | cons {p:Pc} {st:List Pc} {a b:List Tk} {m n:Nat}:PcT s tb p a m→StP s tb st b n→StP s tb (p :: st) (a ++ b) (m + n)
theorem StP.inv {s:Store} {tb:List Nk} {p:Pc} {st:List Pc} {ts:List Tk} {k:Nat} (h:StP s tb (p :: st) ts k):∃ a b m n,PcT s tb p a m∧StP s tb st b n∧ts = a ++ b∧k = m + n:=by
 cases h with
 | cons h1 h2=>exact ⟨_,_,_,_,h1,h2,rfl,rfl⟩
theorem StP.len {s:Store} {tb:List Nk} {st:List Pc} {ts:List Tk} {m:Nat} (h:StP s tb st ts m):st.length≤m:=by
 induction h with
 | nil=>exact Nat.le_refl _
 | @cons p st a b m n h1 _ ih =>
  have:1≤m:=by
   cases p with
   | s k=>rw [h1.2.2]; exact Nat.le_refl _
   | n i =>
    rcases h1 with ⟨t,_,_,rfl⟩ | ⟨t,_,_,rfl⟩
    ·cases t <;> simp only [mT] <;> omega
    ·cases t <;> simp only [mR] <;> omega
  simp only [List.length_cons]
  omega
def PcN (s:Store) (tb:List Nk) (i:Nat) (st:List Pc) (ts:List Tk) (m:Nat):Prop :=
  (∃ (k:Sy) (z:Int) (ts':List Tk) (m':Nat),tb[s.root i]? = some (some k,[z])∧leafS (some k) = true∧goodK k = true∧ts = (k,z,0) :: ts'∧m' < m∧StP s tb st ts' m') ∨
  ∃ (n:Nk) (m':Nat),tb[s.root i]? = some n∧leafS n.1 = false∧partS n.1 = true∧m' < m∧StP s tb (spell n ++ st) ts m'
section
variable {s:Store} {tb:List Nk} {i:Nat} {st:List Pc} {ts ts':List Tk} {m m' n:Nat}
theorem pc_v {b:List Tk} {k:Sy} {z:Int} (e:tb[s.root i]? = some (some k,[z])) (hl:leafS (some k) = true) (hg:goodK k = true) (h:StP s tb st b n):PcN s tb i st ((k,z,0) :: b) (1 + n) :=
 .inl ⟨k,z,b,n,e,hl,hg,rfl,Nat.lt_of_lt_of_eq (Nat.lt_succ_self n) (Nat.add_comm n 1),h⟩
theorem pc_p {x:Nk} (e:tb[s.root i]? = some x) (hl:leafS x.1 = false) (hp:partS x.1 = true) (h:StP s tb (spell x ++ st) ts' m') (et:ts' = ts) (hm:m' < m):PcN s tb i st ts m :=
 .inr ⟨x,m',e,hl,hp,hm,et ▸ h⟩
theorem pc_s {k:Sy} (hg:goodK k = true) (h:StP s tb st ts m):StP s tb (.s k :: st) ((k,0,0) :: ts) (1 + m):=.cons (p:=.s k) (a:=[(k,0,0)]) ⟨hg,rfl,rfl⟩ h
theorem pc_t {t:Ty} (p:PT s tb t i) (h:StP s tb st ts m):StP s tb (.n i :: st) (tkT (zt tb) t ++ ts) (mT t + m):=.cons (p:=.n i) (.inl ⟨t,p,rfl,rfl⟩) h
theorem pc_r {t:Row} (p:PR s tb t i) (h:StP s tb st ts m):StP s tb (.n i :: st) (tkR (zt tb) t ++ ts) (mR t + m):=.cons (p:=.n i) (.inr ⟨t,p,rfl,rfl⟩) h
theorem pc_l1 (a n:Nat):1 + (1 + (a + (1 + n))) < 4 + a + n:=by omega
theorem pc_l2 (a b n:Nat):1 + (1 + (a + (1 + (b + (1 + n))))) < 5 + a + b + n:=by omega
theorem pc_l3 (a b n:Nat):1 + (a + (1 + (b + (1 + n)))) < 4 + a + b + n:=by omega
theorem pc_l4 (a b n:Nat):a + (b + n) < 1 + a + b + n:=by omega
theorem pc_a1 {α:Type} (k b:List α) (c:α):k ++ c :: b = (k ++ [c]) ++ b:=by rw [List.append_assoc]; rfl
theorem pc_a2 {α:Type} (k l b:List α) (c d:α):k ++ c :: (l ++ d :: b) = (k ++ c :: (l ++ [d])) ++ b:=by rw [List.append_assoc,List.cons_append,List.append_assoc]; rfl
end
theorem piece_n {s:Store} {tb:List Nk} {i:Nat} {st:List Pc} {ts:List Tk} {m:Nat} (h:StP s tb (.n i :: st) ts m) :
  (∃ (k:Sy) (z:Int) (ts':List Tk) (m':Nat),tb[s.root i]? = some (some k,[z])∧leafS (some k) = true∧goodK k = true∧ts = (k,z,0) :: ts'∧m' < m∧StP s tb st ts' m') ∨
  ∃ (n:Nk) (m':Nat),tb[s.root i]? = some n∧leafS n.1 = false∧partS n.1 = true∧m' < m∧StP s tb (spell n ++ st) ts m':=by
 show PcN s tb i st ts m
 refine o4_4 h.inv fun a b k n h1 h2 e1 e2=>?_
 rw [e1,e2]
 clear h e1 e2
 rcases h1 with h | h
 ·(refine o1_3 h fun t p e1 e2=>?_; try clear h)
  rw [e1,e2]
  clear e1 e2
  cases t with
  | num=>exact pc_v p rfl rfl h2
  | bool=>exact pc_v p rfl rfl h2
  | var x =>
   obtain ⟨e,z,hz⟩:=p
   have q:=pc_v (i:=i) (by rw [e]; exact hz) rfl rfl h2
   rw [← zt_at hz] at q
   exact q
  | list t =>
   refine o1_2 p fun c e p=>?_
   exact pc_p e rfl rfl (pc_s (k:=.list) rfl (pc_s (k:=.op) rfl (pc_t p (pc_s (k:=.cp) rfl h2)))) (congrArg (fun z=>(Sy.list,0,0) :: (Sy.op,0,0) :: z) (pc_a1 _ _ _)) (pc_l1 _ _)
  | pair t u =>
   refine o2_3 p fun c d e p q=>?_
   exact pc_p e rfl rfl (pc_s (k:=.pair) rfl (pc_s (k:=.op) rfl (pc_t p (pc_s (k:=.cm) rfl (pc_t q (pc_s (k:=.cp) rfl h2)))))) (congrArg (fun z=>(Sy.pair,0,0) :: (Sy.op,0,0) :: z) (pc_a2 _ _ _ _ _)) (pc_l2 _ _ _)
  | fn t u =>
   refine o2_3 p fun c d e p q=>?_
   exact pc_p e rfl rfl (pc_s (k:=.ob) rfl (pc_r p (pc_s (k:=.to) rfl (pc_r q (pc_s (k:=.cb) rfl h2))))) (congrArg (fun z=>(Sy.ob,0,0) :: z) (pc_a2 _ _ _ _ _)) (pc_l3 _ _ _)
 ·(refine o1_3 h fun t p e1 e2=>?_; try clear h)
  rw [e1,e2]
  clear e1 e2
  cases t with
  | var x =>
   obtain ⟨e,z,hz⟩:=p
   have q:=pc_v (i:=i) (by rw [e]; exact hz) rfl rfl h2
   rw [← zt_at hz] at q
   exact q
  | snoc t u =>
   refine o2_3 p fun c d e p q=>?_
   exact pc_p e rfl rfl (pc_r p (pc_t q h2)) (List.append_assoc _ _ _).symm (pc_l4 _ _ _)
theorem piece_s {s:Store} {tb:List Nk} {k:Sy} {st:List Pc} {ts:List Tk} {m:Nat} (h:StP s tb (.s k :: st) ts m):∃ ts' m',goodK k = true∧ts = (k,0,0) :: ts'∧m' < m∧StP s tb st ts' m':=by
 (refine o4_4 h.inv fun a b k n h1 h2 y16_6 y16_7=>?_; subst y16_6; subst y16_7)
 (refine o0_3 h1 fun g y17_1 y17_2=>?_; try clear h1; subst y17_1; subst y17_2)
 exact ⟨b,n,g,rfl,by omega,h2⟩
mutual
theorem mT_le:∀ t:Ty,mT t + 1≤10 * t.weight
 | .num=>by simp [mT,Ty.weight]
 | .bool=>by simp [mT,Ty.weight]
 | .var _=>by simp [mT,Ty.weight]
 | .list t=>by have:=mT_le t; simp only [mT,Ty.weight]; omega
 | .pair a b=>by have:=mT_le a; have:=mT_le b; simp only [mT,Ty.weight]; omega
 | .fn a b=>by have:=mR_le a; have:=mR_le b; simp only [mT,Ty.weight]; omega
theorem mR_le:∀ t:Row,mR t + 1≤10 * t.weight
 | .var _=>by simp [mR,Row.weight]
 | .snoc a b=>by have:=mR_le a; have:=mT_le b; simp only [mR,Row.weight]; omega
end
theorem pieces_E {s:Store} {tb:List Nk} {r q:Row} {i j:Nat} (a:PR s tb r i) (b:PR s tb q j):StP s tb [.n i,.s .to,.n j] (tkE (zt tb) r q) (mR r + (1 + (mR q + 0))):=by
 have:=StP.cons (s:=s) (tb:=tb) (p:=.n i) (.inr ⟨r,a,rfl,rfl⟩) (.cons (p:=.s .to) ⟨rfl,rfl,rfl⟩ (.cons (p:=.n j) (.inr ⟨q,b,rfl,rfl⟩) .nil))
 simp only [List.append_nil,List.cons_append,List.nil_append] at this
 exact this
end Mi
namespace Jd
open PySem PySem.Spec PyProof.Rows L2 W1
open PySem.W (Codec)
def top (i:Nat):Stmt:=PySem.Challenge.pw_stackeffects_s05_then.main.body.getD i (.Pass ⟨0,0,0,0⟩)
def nm:Mi.Sy→Str
 | .op=>"("
 | .cp=>")"
 | .ob=>"["
 | .cb=>"]"
 | .cm=>","
 | .to=>"--"
 | .num=>"num"
 | .bool=>"bool"
 | .list=>"list"
 | .pair=>"pair"
 | .row=>"ROW"
 | .ty=>"ITEM"
 | .bad=>"BAD"
 | .item=>"item"
 | .items=>"items"
def un (x:Str):Mi.Sy:=if x = "(" then .op else if x = ")" then .cp else if x = "[" then .ob else if x = "]" then .cb else if x = "," then .cm else if x = "--" then .to else if x = "num" then .num
 else if x = "bool" then .bool else if x = "list" then .list else if x = "pair" then .pair else if x = "ROW" then .row else if x = "ITEM" then .ty else if x = "BAD" then .bad else if x = "item" then .item else .items
theorem un_nm:∀ k:Mi.Sy,un (nm k) = k:=by
 intro k
 cases k <;> decide +kernel
theorem nm_inj {a b:Mi.Sy} (h:nm a = nm b):a = b:=by rw [← un_nm a,← un_nm b,h]
theorem nm_ok:∀ k:Mi.Sy,PyData.strOk (nm k) = true:=by
 intro k
 cases k <;> decide +kernel
theorem nms_ok:∀ l:List Mi.Sy,(l.map nm).all PyData.strOk = true
 | []=>rfl
 | k :: l=>by rw [List.map_cons,List.all_cons,nm_ok,nms_ok l]; rfl
theorem nms_inj:∀ {l m:List Mi.Sy},l.map nm = m.map nm→l = m
 | [],[],_=>rfl
 | [],_ :: _,h=>by simp at h
 | _ :: _,[],h=>by simp at h
 | a :: l,b :: m,h=>by
  simp only [List.map_cons,List.cons.injEq] at h
  rw [nm_inj h.1,nms_inj h.2]
theorem v_nm {a b:Mi.Sy}:V.str (nm a) = V.str (nm b)↔a = b:=⟨fun h=>nm_inj (V.str.inj h),fun h=>by rw [h]⟩
def codes (x:Str):List Int:=x.cps.toList.map fun (c:Nat)=>(c:Int)
theorem codes_nm:∀ k ∈ Mi.fixed,codes (nm k) = Mi.symBytes k:=by
 intro k hk
 simp only [Mi.fixed,List.mem_cons,List.not_mem_nil,or_false] at hk
 rcases hk with rfl | rfl | rfl | rfl | rfl | rfl | rfl | rfl | rfl | rfl <;> decide +kernel
theorem codes_at {x:Str} {i c:Nat} (h:x.cps[i]? = some c):(codes x)[i]? = some (c:Int):=by
 unfold codes
 rw [List.getElem?_map,Array.getElem?_toList,h]
 rfl
theorem codes_len (x:Str):(codes x).length = x.cps.size:=by simp [codes]
theorem len_nm (k:Mi.Sy):(nm k).cps.size≤5:=by cases k <;> decide +kernel
structure Txt (P:Program) (w:World) (K:PySem.W.Frag) (mg:Str→Option Value) (aB aF aE aS aV:Addr):Prop where
 g_LONGEST:∃ t,mg "LONGEST" = some (.int 1024 t)
 g_DEEPEST:∃ t,mg "DEEPEST" = some (.int 40 t)
 g_LETTERS:∃ t,mg "LETTERS" = some (.int 26 t)
 g_BLANKS:mg "BLANKS" = some (.ref aB)
 g_FIXED:mg "FIXED" = some (.ref aF)
 g_EFFECT:mg "EFFECT" = some (.ref aE)
 g_ITEM_STARTS:mg "ITEM_STARTS" = some (.ref aS)
 blanks:∀ H,SqT K H aB (Mi.blanks.map V.int)
 fixed:∀ H,SqT K H aF (Mi.fixed.map fun k=>V.str (nm k))
 effect:∀ H,SqT K H aE (Mi.start0.reverse.map fun k=>V.str (nm k))
 starts:∃ m:Str→Option Value,DicK P w K aS m∧∀ k,Mi.goodK k = true→match Mi.starts k with
  | none=>m (nm k) = none
  | some l=>∃ b,m (nm k) = some (.ref b)∧∀ H,SqT K H b (l.reverse.map fun k=>V.str (nm k))
 g_VARIABLES:mg "VARIABLES" = some (.ref aV)
 vars:∀ H,SqT K H aV [.str "ROW",.str "ITEM"]
 b_any:mg "any" = none
 b_enumerate:mg "enumerate" = none
 b_len:mg "len" = none
 b_max:mg "max" = none
 b_all:mg "all" = none
 b_ord:mg "ord" = none
 b_list:mg "list" = none
abbrev IL (K:PySem.W.Frag) (H:Hp) (a:Addr) (ns:List Int):Prop:=SqL K H a (ns.map V.int)
def spB (f:Int→Bool):Sp:=fun vs H Q _=>∃ z:Int,vs = [.int z]∧Q (.bl (f z)) H
def spBytes:Sp:=fun vs H Q _=>∃ x:Str,vs = [.str x]∧x.cps.size≤1000∧∀ (H':Hp) (p:Addr),Same H H'→H p = none→H' p = some (.lst ((codes x).map V.int))→Q (.ref p) H'
def spFirst:Sp:=fun vs H Q _=>∃ k:Mi.Sy,vs = [.str (nm k)]∧Q (.int (Mi.first k)) H
def spIsVar (K:PySem.W.Frag):Sp:=fun vs H Q _=>∃ (a:Addr) (ns:List Int),vs = [.ref a]∧IL K H a ns∧ns≠[]∧ns.length≤2000∧∀ H':Hp,Same H H'→Q (.bl (Mi.isVar ns)) H'
def spKind (K:PySem.W.Frag):Sp:=fun vs H Q _=>∃ (a:Addr) (ns:List Int),vs = [.ref a]∧IL K H a ns∧ns≠[]∧ns.length≤2000∧∀ H':Hp,Same H H'→Q (.str (nm (Mi.kindOf ns))) H'
def spNumber (K:PySem.W.Frag):Sp:=fun vs H Q _=>∃ (k:Mi.Sy) (a:Addr) (ns:List Int),vs = [.str (nm k),.ref a]∧IL K H a ns∧ns≠[]∧∀ H':Hp,Same H H'→Q (.int (Mi.numOf k ns)) H'
def spTokEnd (K:PySem.W.Frag):Sp:=fun vs H Q _=>∃ (a:Addr) (ns:List Int) (j:Nat),vs = [.ref a,.int (j:Int)]∧IL K H a ns∧j < ns.length∧ns.length≤2000∧∀ H':Hp,Same H H'→Q (.int ((j + Mi.tokEnd (ns.drop j):Nat):Int)) H'
def TkAt (H:Hp) (a:Addr) (x:Mi.Tk):Prop:=H a = some (.tup [.str (nm x.1),.int x.2.1,.int (x.2.2:Int)])
def ToksAt (H:Hp) (l:Addr) (ts:List Mi.Tk):Prop:=∃ as:List Addr,H l = some (.lst (as.map V.ref))∧Paired (TkAt H) as ts
def spTokens (K:PySem.W.Frag):Sp:=fun vs H Q _=>∃ (a:Addr) (ns:List Int),vs = [.ref a]∧IL K H a ns∧ns.length≤2000∧∀ (H':Hp) (l:Addr),Same H H'→H l = none→ToksAt H' l (Mi.toks 0 ns)→Q (.ref l) H'
abbrev AwAt (H:Hp) (a:Addr) (st:List Mi.Sy):Prop:=H a = some (.lst (st.reverse.map fun k=>V.str (nm k)))
def spAwait:Sp:=fun vs H Q _=>∃ (k:Mi.Sy) (a:Addr) (st:List Mi.Sy),vs = [.str (nm k),.ref a]∧Mi.goodK k = true∧AwAt H a st∧st≠[]∧st.length≤100000 ∧
 (∀ H':Hp,Same H H'→Mi.step k st = none→Q .non H')∧∀ (H':Hp) (p:Addr) (st':List Mi.Sy),Same H H'→Mi.step k st = some st'→AwAt H' p st'→Q (.ref p) H'
def spDeep:Sp:=fun vs H Q _=>∃ (a:Addr) (st:List Mi.Sy),vs = [.ref a]∧AwAt H a st∧Q (.bl (decide (40 < Mi.cnt st))) H
def spFault (K:PySem.W.Frag):Sp:=fun vs H Q _=>∃ (a:Addr) (ns:List Int),vs = [.ref a]∧IL K H a ns∧ns.length≤1024∧(∀ H':Hp,Same H H'→Mi.fault ns = none→Q .non H')∧∀ (H':Hp) (p:Nat),Same H H'→Mi.fault ns = some p→Q (.int (p:Int)) H'
def TextsAt (K:PySem.W.Frag) (H:Hp) (a:Addr) (nss:List (List Int)):Prop:=∃ as:List Addr,H a = some (.lst (as.map V.ref))∧Paired (fun b ns=>IL K H b ns) as nss
def spRefusal (K:PySem.W.Frag):Sp:=fun vs H Q _=>∃ (a:Addr) (nss:List (List Int)),vs = [.ref a]∧TextsAt K H a nss∧nss.length≤2∧(∀ H':Hp,Same H H'→Mi.refusals nss = none→Q .non H') ∧
 ∀ (H':Hp) (p:Addr) (l:List Int),Same H H'→Mi.refusals nss = some l→H' p = some (.lst (l.map V.int))→Q (.ref p) H'
section
variable {P:Program} {w:World} {K:PySem.W.Frag} {mg:Str→Option Value} {base:Heap} {aB aF aE aS aV:Addr}
theorem chain_b {Q:VK} {H:Hp} {z lo hi:Int} {f:Int→Bool} (hf:f z = (decide (lo≤z) && decide (z≤hi))) (k:Q (.bl (f z)) H) :
  if decide (lo≤z) = true then ∃ i j,V.int z = .int i∧V.int hi = .int j∧Q (.bl (decide (i≤j))) H else Q (.bl false) H:=by
 refine ite2 (fun h=>⟨z,hi,rfl,rfl,?_⟩) (fun h=>?_)
 ·rw [hf,h,Bool.true_and] at k
  exact k
 ·have e:decide (lo≤z) = false:=by simpa using h
  rw [hf,e,Bool.false_and] at k
  exact k
abbrev s_is_capital:Stmt:=top 38
theorem sc_is_capital:FnScope ["byte"] ["byte"] (defScope s_is_capital):=⟨rfl,rfl,rfl,by decide +kernel,rfl,by decide +kernel,by decide +kernel⟩
theorem bi_is_capital:Bi "is_capital" s_is_capital ["byte"]:=fun _ _ _ _ _ _ us hl=>by (refine o1_1 (len1 hl) fun _ y1_1=>?_; subst y1_1); rfl
theorem ok_is_capital (F:FnAt K mg "is_capital" s_is_capital):Own P w K mg base "is_capital" 1 ["byte"] (spB Mi.isCap):=by
 refine Own.of F sc_is_capital bi_is_capital (fun vs H Q E h=>?_) (fun f cdv A outer s H vs Q E hr h=>?_)
 ·(refine o1_2 h fun z y2_1 _=>?_; try clear h; subst y2_1)
  rfl
 ·(refine o1_2 h fun z y3_1 k=>?_; try clear h; subst y3_1)
  refine ⟨_,(pss_one (ps_ret (pe_chain op_le op_le pe_int (pv 0) pe_int))),?_⟩
  try dsimp only [cxOf,Cx.nox]
  exact ⟨_,rfl,_,_,rfl,rfl,_,rfl,chain_b (f:=Mi.isCap) rfl k⟩
abbrev s_is_digit:Stmt:=top 39
theorem sc_is_digit:FnScope ["byte"] ["byte"] (defScope s_is_digit):=⟨rfl,rfl,rfl,by decide +kernel,rfl,by decide +kernel,by decide +kernel⟩
theorem bi_is_digit:Bi "is_digit" s_is_digit ["byte"]:=fun _ _ _ _ _ _ us hl=>by (refine o1_1 (len1 hl) fun _ y4_1=>?_; subst y4_1); rfl
theorem ok_is_digit (F:FnAt K mg "is_digit" s_is_digit):Own P w K mg base "is_digit" 1 ["byte"] (spB Mi.isDig):=by
 refine Own.of F sc_is_digit bi_is_digit (fun vs H Q E h=>?_) (fun f cdv A outer s H vs Q E hr h=>?_)
 ·(refine o1_2 h fun z y5_1 _=>?_; try clear h; subst y5_1)
  rfl
 ·(refine o1_2 h fun z y6_1 k=>?_; try clear h; subst y6_1)
  refine ⟨_,(pss_one (ps_ret (pe_chain op_le op_le pe_int (pv 0) pe_int))),?_⟩
  try dsimp only [cxOf,Cx.nox]
  exact ⟨_,rfl,_,_,rfl,rfl,_,rfl,chain_b (f:=Mi.isDig) rfl k⟩
theorem or_b {Q:VK} {H:Hp} {a b c:Bool} {B:Prop} (hc:c = (a || b)) (k:Q (.bl c) H) (hB:Q (.bl b) H→B):if a = true then Q (.bl true) H else B:=by
 subst hc
 refine ite2 (fun h=>?_) (fun h=>?_)
 ·rw [h] at k
  exact k
 ·have e:a = false:=by simpa using h
  rw [e] at k
  exact hB k
abbrev s_is_letter:Stmt:=top 37
theorem sc_is_letter:FnScope ["byte"] ["byte"] (defScope s_is_letter):=⟨rfl,rfl,rfl,by decide +kernel,rfl,by decide +kernel,by decide +kernel⟩
theorem bi_is_letter:Bi "is_letter" s_is_letter ["byte"]:=fun _ _ _ _ _ _ us hl=>by (refine o1_1 (len1 hl) fun _ y7_1=>?_; subst y7_1); rfl
theorem ok_is_letter (F:FnAt K mg "is_letter" s_is_letter) (C_is_capital:Own P w K mg base "is_capital" 1 ["byte"] (spB Mi.isCap)):Own P w K mg base "is_letter" 2 ["byte"] (spB Mi.isLet):=by
 refine Own.of F sc_is_letter bi_is_letter (fun vs H Q E h=>?_) (fun f cdv A outer s H vs Q E hr h=>?_)
 ·(refine o1_2 h fun z y8_1 _=>?_; try clear h; subst y8_1)
  rfl
 ·(refine o1_2 h fun z y9_1 k=>?_; try clear h; subst y9_1)
  refine ⟨_,(pss_one (ps_ret (pe_or (pe_own C_is_capital (hr.mono (by decide)) (by rfl) (pa_cons (pv 0) pa_nil)) (pe_one (pe_chain op_le op_le pe_int (pv 0) pe_int))))),?_⟩
  try dsimp only [cxOf,Cx.nox]
  exact ⟨_,rfl,z,rfl,_,rfl,or_b (c:=Mi.isLet z) rfl k fun k=>⟨_,rfl,_,_,rfl,rfl,_,rfl,chain_b (f:=Mi.isSmall) rfl k⟩⟩
abbrev s_bytes_of:Stmt:=top 40
theorem sc_bytes_of:FnScope ["text","sign"] ["text"] (defScope s_bytes_of):=⟨rfl,rfl,rfl,by decide +kernel,rfl,by decide +kernel,by decide +kernel⟩
theorem bi_bytes_of:Bi "bytes_of" s_bytes_of ["text"]:=fun _ _ _ _ _ _ us hl=>by (refine o1_1 (len1 hl) fun _ y10_1=>?_; subst y10_1); rfl
theorem ok_bytes_of (F:FnAt K mg "bytes_of" s_bytes_of) (T:Txt P w K mg aB aF aE aS aV):Own P w K mg base "bytes_of" 1 ["text"] spBytes:=by
 refine Own.of F sc_bytes_of bi_bytes_of (fun vs H Q E h=>?_) (fun f cdv A outer s H vs Q E hr h=>?_)
 ·(refine o1_2 h fun x y11_1 _=>?_; try clear h; subst y11_1)
  rfl
 ·(refine o1_3 h fun x y12_1 hx k=>?_; try clear h; subst y12_1)
  refine ⟨_,(pss_one (ps_ret (pe_lc (own:=[("sign",1)]) rfl sc_bytes_of.nd (pi_str (pv 0)) (blkOk_by (by show blkC ["text","sign"] (defScope s_bytes_of) _ _ = true; decide +kernel)) (fun _ _ _ _ _=>(pg_name (i:=1) sc_bytes_of.nd rfl (Or.inl rfl))) (fun _ _ _ _ _=>pts_nil) (fun _ _ _ _ _=>(pe_callB call_ord (by rfl) T.b_ord bo_ord (pa_cons (pv 1) pa_nil)))))),?_⟩
  try dsimp only [cxOf,Cx.nox]
  refine ⟨_,rfl,x,rfl,fun D hD=>lc_str (fun i H'=>Same H H'∧H' D = some (.lst (((codes x).take i).map V.int))) ⟨same_new hD,upd_same⟩ ?_ ?_⟩
  ·(intro i c H' hc oi13; refine o0_2 oi13 fun s1 hD'=>?_; try clear oi13)
   refine ⟨rfl,_,rfl,⟨#[c]⟩,rfl,rfl,_,hD',?_,Same.put s1 hD,?_⟩
   ·rw [List.length_map,List.length_take,codes_len]
    exact Nat.lt_of_le_of_lt (Nat.le_trans (Nat.min_le_right _ _) hx) (by decide)
   ·rw [upd_same,take_snoc (codes_at hc),List.map_append]
    rfl
  ·(intro H' oi15; refine o0_2 oi15 fun s1 hD'=>?_; try clear oi15)
   rw [← codes_len,List.take_length] at hD'
   exact k H' D s1 hD hD'
abbrev s_first_letter:Stmt:=top 24
theorem sc_first_letter:FnScope ["kind"] ["kind"] (defScope s_first_letter):=⟨rfl,rfl,rfl,by decide +kernel,rfl,by decide +kernel,by decide +kernel⟩
theorem bi_first_letter:Bi "first_letter" s_first_letter ["kind"]:=fun _ _ _ _ _ _ us hl=>by (refine o1_1 (len1 hl) fun _ y17_1=>?_; subst y17_1); rfl
theorem ok_first_letter (F:FnAt K mg "first_letter" s_first_letter):Own P w K mg base "first_letter" 1 ["kind"] spFirst:=by
 refine Own.of F sc_first_letter bi_first_letter (fun vs H Q E h=>?_) (fun f cdv A outer s H vs Q E hr h=>?_)
 ·(refine o1_2 h fun z y18_1 _=>?_; try clear h; subst y18_1)
  rfl
 ·(refine o1_2 h fun z y19_1 k=>?_; try clear h; subst y19_1)
  refine ⟨_,(pss_one (ps_ret (pe_ifExp (pt_cmpR op_eq (pv 0) pe_str (nomark _)) pe_int pe_int))),?_⟩
  try dsimp only [cxOf,Cx.nox]
  refine ⟨_,rfl,rfl,_,rfl,ite2 (fun h=>?_) (fun h=>?_)⟩
  ·have e:z = .row:=v_nm.mp (of_decide_eq_true h)
   subst e
   exact k
  ·have e:z≠.row:=fun e=>h (by subst e; exact decide_eq_true rfl)
   unfold Mi.first at k
   rw [if_neg e] at k
   exact k
theorem cons_of {α:Type} {l:List α} (h:l≠[]):∃ c d,l = c :: d:=by
 cases l with
 | nil=>exact absurd rfl h
 | cons c d=>exact ⟨c,d,rfl⟩
theorem at0 {c:Int} {d:List Int}:atI ((c :: d).map V.int) 0 = some (V.int c):=at_of (j:=0) rfl rfl
theorem all_id (d:List Int):(d.map Mi.isDig).all id = d.all Mi.isDig:=by
 rw [List.all_map]
 rfl
abbrev s_is_variable:Stmt:=top 25
theorem sc_is_variable:FnScope ["part","digits","byte"] ["part"] (defScope s_is_variable):=⟨rfl,rfl,rfl,by decide +kernel,rfl,by decide +kernel,by decide +kernel⟩
theorem bi_is_variable:Bi "is_variable" s_is_variable ["part"]:=fun _ _ _ _ _ _ us hl=>by (refine o1_1 (len1 hl) fun _ y20_1=>?_; subst y20_1); rfl
theorem ok_is_variable (F:FnAt K mg "is_variable" s_is_variable) (T:Txt P w K mg aB aF aE aS aV) (C_is_letter:Own P w K mg base "is_letter" 2 ["byte"] (spB Mi.isLet)) (C_is_digit:Own P w K mg base "is_digit" 1 ["byte"] (spB Mi.isDig)):Own P w K mg base "is_variable" 3 ["part"] (spIsVar K):=by
 refine Own.of F sc_is_variable bi_is_variable (fun vs H Q E h=>?_) (fun f cdv A outer s H vs Q E hr h=>?_)
 ·(refine o2_2 h fun a ns y21_2 _=>?_; try clear h; subst y21_2)
  rfl
 ·(refine o2_5 h fun a ns y22_2 hS hne hlen k=>?_; try clear h; subst y22_2)
  refine ⟨_,(pss_cons (ps_set (i:=1) sc_is_variable.nd rfl (Or.inl rfl) (pe_slice sl_list (pv 0) (po_some pe_int) po_none))
   (pss_cons (ps_if (pt_cut (pw_or (pt_not (pt_val (pe_own C_is_letter (hr.mono (by decide)) (by rfl) (pa_cons (pe_ix ix_list (pv 0) pe_int (fun _ _=>rfl)) pa_nil)))) (pw_or1 (pt_cmpR op_gt (pe_callB call_len_seq (by rfl) T.b_len bo_len (pa_cons (pv 1) pa_nil)) pe_int (nomark _)))).pt)
    (pss_one (ps_ret pe_bl))
    pss_nil)
   (pss_cons (ps_if (pt_not (pt_val (pe_callB (cr_all rfl) (by rfl) T.b_all bo_all (pa_cons (pe_lc (own:=[("byte",2)]) rfl sc_is_variable.nd (pi_list (pv 1)) (blkOk_by (by show blkC ["part","digits","byte"] (defScope s_is_variable) _ _ = true; decide +kernel)) (fun _ _ _ _ _=>(pg_name (i:=2) sc_is_variable.nd rfl (Or.inl rfl))) (fun _ _ _ _ _=>pts_nil) (fun _ _ _ _ _=>(pe_own C_is_digit (hr.mono (by decide)) (by rfl) (pa_cons (pv 2) pa_nil)))) pa_nil))))
    (pss_one (ps_ret pe_bl))
    pss_nil)
   (pss_one (ps_ret (pe_or (pe_cmpR (op_eqInts hr.units) (pv 1) (pe_lst pa_nil) (nomark _)) (pe_one (pe_cmpR op_ne (pe_ix ix_list (pv 1) pe_int (fun _ _=>rfl)) pe_int (nomark _))))))))),?_⟩
  try dsimp only [cxOf,Cx.nox]
  (refine o2_1 (cons_of hne) fun c d y23_2=>?_; subst y23_2)
  refine ⟨_,rfl,_,rfl,a,_,rfl,hS,fun p hp=>?_⟩
  have e1:cutV ((c :: d).map V.int) (some 1) none = d.map V.int:=cut_from _ 1 (by simp)
  rw [e1]
  generalize eH:upd H p (.lst (d.map V.int)) = H1
  have s1:Same H H1:=by rw [← eH]; exact same_new hp
  have hp1:H1 p = some (.lst (d.map V.int)):=by rw [← eH]; exact upd_same
  have hlen':d.length≤2000:=by simp at hlen; omega
  refine ⟨fun b H'=>H1 = H'∧b = (!Mi.isLet c || decide (3 < d.length)),?_,?_⟩
  ·refine ⟨_,rfl,a,_,_,_,rfl,rfl,s1.seq hS,at0,c,rfl,_,rfl,ite2 (fun h=>⟨rfl,?_⟩) (fun h=>⟨_,rfl,p,_,rfl,.inl (SqL.of hp1),_,_,rfl,rfl,_,rfl,rfl,?_⟩)⟩
   ·rw [h]; rfl
   ·have h':(!Mi.isLet c) = false:=by simpa using h
    rw [h',Bool.false_or,List.length_map]
    exact decide_eq_decide.mpr (by omega)
  (intro _ _ oi24; refine o0_2 oi24 fun y25_0 y25_1=>?_; try clear oi24; subst y25_0; subst y25_1)
  refine ite2 (fun h=>?_) (fun h=>?_)
  ·have e:Mi.isVar (c :: d) = false:=by
    rw [Mi.isVar_cons]
    simp only [Bool.or_eq_true,decide_eq_true_eq,Bool.not_eq_true'] at h
    rcases h with h | h
    ·rw [h]; rfl
    ·unfold Mi.tailOk
     rw [decide_eq_false (by omega)]
     simp
   have k':=k _ s1
   rw [e] at k'
   exact k'
  have hL:Mi.isLet c = true:=by simp at h; exact h.1
  have h3:d.length≤3:=by simp at h; exact h.2
  have eV:Mi.isVar (c :: d) = Mi.tailOk d:=by rw [Mi.isVar_cons,hL]; rfl
  refine ⟨_,rfl,p,rfl,⟨_,SqL.of hp1⟩,fun D hD=>lc_list (K:=K) (a:=p) (xs:=d.map V.int) (fun i H'=>Same H1 H'∧H' D = some (.lst (((d.map Mi.isDig).take i).map V.bl))) ⟨same_new hD,upd_same⟩ (fun i H' _ q=>SqL.of (q.1 _ _ hp1)) ?_ ?_⟩
  ·(intro i y H' hi oi26; refine o0_2 oi26 fun s2 hD'=>?_; try clear oi26)
   (refine o1_2 (map_at hi) fun z hz y28_2=>?_; subst y28_2)
   refine ⟨rfl,_,rfl,z,rfl,_,hD',?_,Same.put s2 hD,?_⟩
   ·rw [List.length_map,List.length_take,List.length_map]
    exact Nat.lt_of_le_of_lt (Nat.le_trans (Nat.min_le_right _ _) hlen') (by decide)
   ·rw [upd_same,take_snoc (l:=d.map Mi.isDig) (x:=Mi.isDig z) (by rw [List.getElem?_map,hz]; rfl),List.map_append]
    rfl
  ·(intro H2 oi29; refine o0_2 oi29 fun s2 hD2=>?_; try clear oi29)
   have hD3:H2 D = some (.lst ((d.map Mi.isDig).map V.bl)):=by
    rw [hD2,List.length_map,← List.length_map (f:=Mi.isDig),List.take_length]
   refine ⟨D,_,rfl,SqL.of hD3,_,rfl,?_⟩
   have s12:=s1.trans s2
   refine ite2 (fun h=>?_) (fun h=>?_)
   ·have e:d.all Mi.isDig = false:=by rw [all_id] at h; simpa using h
    have e:Mi.isVar (c :: d) = false:=by rw [eV]; unfold Mi.tailOk; rw [e]; simp
    have k':=k H2 s12
    rw [e] at k'
    exact k'
   ·have e:d.all Mi.isDig = true:=by rw [all_id] at h; simpa using h
    refine ⟨_,rfl,Nat.zero_le _,fun q hq=>⟨p,q,d,[],rfl,rfl,SqL.of ((same_new hq) _ _ (s2 _ _ hp1)),SqL.of upd_same,_,rfl,?_⟩⟩
    have s3:Same H (upd H2 q (.lst [])):=s12.trans (same_new hq)
    have k':=k _ s3
    rw [eV] at k'
    cases d with
    | nil=>exact iteT k'
    | cons c2 d2 =>
     refine ite2 (fun z=>absurd (of_decide_eq_true z) (by simp)) (fun _=>?_)
     refine ⟨_,rfl,p,_,_,_,rfl,rfl,SqL.of ((same_new hq) _ _ (s2 _ _ hp1)),at0,rfl,?_⟩
     have e5:Mi.tailOk (c2 :: d2) = !decide (V.int c2 = V.int 48):=by
      unfold Mi.tailOk
      rw [e,decide_eq_true h3,Bool.eq_iff_iff]
      simp
     rw [e5] at k'
     exact k'
theorem kind_hit {ns:List Int}:∀ (l:List Mi.Sy) (i:Nat) (k:Mi.Sy),l[i]? = some k→(∀ j ∈ l.take i,ns≠Mi.symBytes j)→ns = Mi.symBytes k→l.find? (fun k=>decide (ns = Mi.symBytes k)) = some k
 | [],i,k,h,_,_=>by simp at h
 | a :: l,0,k,h,_,e=>by
  have h:a = k:=Option.some.inj h
  subst h
  rw [List.find?_cons,decide_eq_true e]
 | a :: l,i + 1,k,h,hn,e=>by
  rw [List.find?_cons,decide_eq_false (hn a (by simp))]
  exact kind_hit l i k h (fun j hj=>hn j (by simp [hj])) e
theorem kind_miss {ns:List Int} (hn:∀ j ∈ Mi.fixed,ns≠Mi.symBytes j):Mi.fixed.find? (fun k=>decide (ns = Mi.symBytes k)) = none:=by
 rw [List.find?_eq_none]
 intro j hj
 simp [hn j hj]
abbrev s_kind_of:Stmt:=top 22
theorem sc_kind_of:FnScope ["part","kind"] ["part"] (defScope s_kind_of):=⟨rfl,rfl,rfl,by decide +kernel,rfl,by decide +kernel,by decide +kernel⟩
theorem bi_kind_of:Bi "kind_of" s_kind_of ["part"]:=fun _ _ _ _ _ _ us hl=>by (refine o1_1 (len1 hl) fun _ y31_1=>?_; subst y31_1); rfl
theorem ok_kind_of (F:FnAt K mg "kind_of" s_kind_of) (T:Txt P w K mg aB aF aE aS aV) (C_bytes_of:Own P w K mg base "bytes_of" 1 ["text"] spBytes) (C_is_variable:Own P w K mg base "is_variable" 3 ["part"] (spIsVar K)) (C_is_capital:Own P w K mg base "is_capital" 1 ["byte"] (spB Mi.isCap)):Own P w K mg base "kind_of" 4 ["part"] (spKind K):=by
 refine Own.of F sc_kind_of bi_kind_of (fun vs H Q E h=>?_) (fun f cdv A outer s H vs Q E hr h=>?_)
 ·(refine o2_2 h fun a ns y32_2 _=>?_; try clear h; subst y32_2)
  rfl
 ·(refine o2_5 h fun a ns y33_2 hS hne hlen k=>?_; try clear h; subst y33_2)
  refine ⟨_,(pss_cons (ps_for PassesOwn.never rfl (pi_tup (pe_gref (by rfl) T.g_FIXED)) (pg_name (i:=1) sc_kind_of.nd rfl (Or.inl rfl))
    (pss_one (ps_if (pt_cmpR (op_eqInts hr.units) (pv 0) (pe_own C_bytes_of (hr.mono (by decide)) (by rfl) (pa_cons (pv 1) pa_nil)) (nomark _))
     (pss_one (ps_ret (pv 1)))
     pss_nil)))
   (pss_cons (ps_if (pt_not (pt_val (pe_own C_is_variable (hr.mono (by decide)) (by rfl) (pa_cons (pv 0) pa_nil))))
    (pss_one (ps_ret pe_str))
    pss_nil)
   (pss_one (ps_ret (pe_ifExp (pt_val (pe_own C_is_capital (hr.mono (by decide)) (by rfl) (pa_cons (pe_ix ix_list (pv 0) pe_int (fun _ _=>rfl)) pa_nil))) pe_str pe_str))))),?_⟩
  try dsimp only [cxOf,Cx.nox]
  refine ⟨aF,rfl,⟨_,T.fixed H⟩,for_tup (K:=K) (a:=aF) (xs:=Mi.fixed.map fun k=>V.str (nm k)) (fun i σ H'=>∃ v:Option V,σ = [some (.ref a),v]∧Same H H'∧∀ j ∈ Mi.fixed.take i,ns≠Mi.symBytes j)
   ⟨none,rfl,Same.refl H,by simp⟩ (fun i σ H' _ _=>T.fixed H') ?_ ?_⟩
  ·(intro i y σ H' hi oi34; refine o1_3 oi34 fun v y35_1 s1 hn=>?_; try clear oi34; subst y35_1)
   (refine o1_2 (map_at hi) fun j hj y36_2=>?_; subst y36_2)
   have hm:j ∈ Mi.fixed:=List.mem_of_getElem? hj
   refine ⟨_,rfl,_,rfl,nm j,rfl,Nat.le_trans (len_nm j) (by decide),fun H2 p s2 hp h2=>?_⟩
   rw [codes_nm j hm] at h2
   have s12:=s1.trans s2
   refine ⟨a,p,ns,Mi.symBytes j,rfl,rfl,s12.seq hS,SqL.of h2,_,rfl,ite2 (fun h=>⟨_,rfl,?_⟩) (fun h=>⟨_,rfl,s12,?_⟩)⟩
   ·have e:Mi.kindOf ns = j:=by
     unfold Mi.kindOf
     rw [kind_hit Mi.fixed i j hj hn (of_decide_eq_true h)]
    have k':=k H2 s12
    rw [e] at k'
    exact k'
   ·rw [take_snoc hj]
    intro q hq
    rcases List.mem_append.mp hq with hq | hq
    ·exact hn q hq
    ·have e:q = j:=by simpa using hq
     subst e
     exact of_decide_eq_false (by simpa using h)
  ·(intro σ H1 oi37; refine o1_3 oi37 fun v y38_1 s1 hn=>?_; try clear oi37; subst y38_1)
   rw [List.length_map,List.take_length] at hn
   have e0:Mi.kindOf ns = if Mi.isVar ns = true then (if Mi.isCap (ns.headD 0) = true then .row else .ty) else .bad:=by
    unfold Mi.kindOf
    rw [kind_miss hn]
   refine ⟨_,rfl,a,ns,rfl,s1.seq hS,hne,hlen,fun H2 s2=>⟨_,rfl,ite2 (fun h=>?_) (fun h=>?_)⟩⟩
   ·have e:Mi.isVar ns = false:=by simpa using h
    have k':=k H2 (s1.trans s2)
    rw [e0,e] at k'
    exact k'
   ·have e:Mi.isVar ns = true:=by simpa using h
    (refine o2_1 (cons_of hne) fun c d y39_2=>?_; subst y39_2)
    have s12:=s1.trans s2
    have k':=k H2 s12
    rw [e0,e,if_pos rfl] at k'
    refine ⟨_,rfl,a,_,_,_,rfl,rfl,s12.seq hS,at0,c,rfl,_,rfl,ite2 (fun h=>?_) (fun h=>?_)⟩
    ·rw [if_pos (show Mi.isCap ((c :: d).headD 0) = true from h)] at k'
     exact k'
    ·rw [if_neg (show ¬ Mi.isCap ((c :: d).headD 0) = true from h)] at k'
     exact k'
abbrev s_number_of:Stmt:=top 23
theorem sc_number_of:FnScope ["kind","part","rounds","byte"] ["kind","part"] (defScope s_number_of):=⟨rfl,rfl,rfl,by decide +kernel,rfl,by decide +kernel,by decide +kernel⟩
theorem bi_number_of:Bi "number_of" s_number_of ["kind","part"]:=fun _ _ _ _ _ _ us hl=>by (refine o2_1 (len2 hl) fun _ _ y40_2=>?_; subst y40_2); rfl
theorem in_vars (k:Mi.Sy):inV (.str (nm k)) [.str "ROW",.str "ITEM"] = decide (k = .row∨k = .ty):=by cases k <;> decide +kernel
theorem rounds_snoc {d:List Int} {z:Int}:Mi.rounds (d ++ [z]) = Mi.rounds d * 10 + z - 48:=by simp [Mi.rounds]
theorem ok_number_of (F:FnAt K mg "number_of" s_number_of) (T:Txt P w K mg aB aF aE aS aV) (C_first_letter:Own P w K mg base "first_letter" 1 ["kind"] spFirst):Own P w K mg base "number_of" 2 ["kind","part"] (spNumber K):=by
 refine Own.of F sc_number_of bi_number_of (fun vs H Q E h=>?_) (fun f cdv A outer s H vs Q E hr h=>?_)
 ·(refine o3_2 h fun z a ns y41_3 _=>?_; try clear h; subst y41_3)
  rfl
 ·(refine o3_4 h fun z a ns y42_3 hS hne k=>?_; try clear h; subst y42_3)
  refine ⟨_,(pss_cons (ps_if (pt_cmpR op_notIn_seq (pv 0) (pe_gref (by rfl) T.g_VARIABLES) (by with_unfolding_all rfl))
    (pss_one (ps_ret pe_int))
    pss_nil)
   (pss_cons (ps_set (i:=2) sc_number_of.nd rfl (Or.inl rfl) pe_int)
   (pss_cons (ps_for PassesOwn.never rfl (pi_list (pe_slice sl_list (pv 1) (po_some pe_int) po_none)) (pg_name (i:=3) sc_number_of.nd rfl (Or.inl rfl))
    (pss_one (ps_set (i:=2) sc_number_of.nd rfl (Or.inl rfl) (pe_op op_sub (pe_op op_add (pe_op op_mul (pv 2) pe_int) (pv 3)) pe_int))))
   (pss_one (ps_ret (pe_op op_sub (pe_op op_add (pe_op op_mul (pv 2) (pe_gint (by rfl) T.g_LETTERS)) (pe_ix ix_list (pv 1) pe_int (fun _ _=>rfl))) (pe_own C_first_letter (hr.mono (by decide)) (by rfl) (pa_cons (pv 0) pa_nil)))))))),?_⟩
  try dsimp only [cxOf,Cx.nox]
  refine ⟨_,rfl,aV,_,rfl,.inr (T.vars H),rfl,rfl,_,rfl,ite2 (fun h=>?_) (fun h=>?_)⟩
  ·have hz:¬ (z = .row∨z = .ty):=by
    rw [if_pos rfl,in_vars] at h
    simpa using h
   have k':=k _ (Same.refl _)
   unfold Mi.numOf at k'
   rw [if_neg hz] at k'
   exact k'
  ·have hz:z = .row∨z = .ty:=by
    rw [if_pos rfl,in_vars] at h
    exact Classical.byContradiction fun q=>h (by rw [decide_eq_false q]; rfl)
   (refine o2_1 (cons_of hne) fun c d y43_2=>?_; subst y43_2)
   refine ⟨_,rfl,_,rfl,a,_,rfl,hS,fun p hp=>?_⟩
   have e1:cutV ((c :: d).map V.int) (some 1) none = d.map V.int:=cut_from _ 1 (by simp)
   rw [e1]
   generalize eH:upd H p (.lst (d.map V.int)) = H1
   have s1:Same H H1:=by rw [← eH]; exact same_new hp
   have hp1:H1 p = some (.lst (d.map V.int)):=by rw [← eH]; exact upd_same
   refine ⟨p,rfl,⟨_,SqL.of hp1⟩,for_list (K:=K) (a:=p) (xs:=d.map V.int) (fun i σ H'=>∃ v:Option V,σ = [some (.str (nm z)),some (.ref a),some (.int (Mi.rounds (d.take i))),v]∧Same H1 H')
    ⟨none,rfl,Same.refl _⟩ (fun i σ H' _ ⟨_,_,s2⟩=>SqL.of (s2 _ _ hp1)) ?_ ?_⟩
   ·(intro i y σ H' hi oi44; refine o1_2 oi44 fun v y45_1 s2=>?_; try clear oi44; subst y45_1)
    (refine o1_2 (map_at hi) fun b hb y46_2=>?_; subst y46_2)
    refine ⟨_,rfl,_,_,rfl,rfl,.inr (by decide),_,rfl,_,_,rfl,rfl,_,_,rfl,rfl,some (V.int b),?_,s2⟩
    rw [take_snoc hb,rounds_snoc]
    rfl
   ·(intro σ H2 oi47; refine o1_2 oi47 fun v y48_1 s2=>?_; try clear oi47; subst y48_1)
    rw [List.length_map,List.take_length]
    have s12:=s1.trans s2
    refine ⟨_,rfl,_,_,rfl,rfl,.inr (by decide),_,rfl,a,_,_,_,rfl,rfl,s12.seq hS,at0,_,_,rfl,rfl,_,rfl,z,rfl,_,_,rfl,rfl,?_⟩
    have k':=k H2 s12
    unfold Mi.numOf at k'
    rw [if_pos hz] at k'
    exact k'
end
end Jd
namespace Jd
open PySem PySem.Spec PyProof.Rows L2 W1
open PySem.W (Codec)
section
variable {P:Program} {w:World} {K:PySem.W.Frag} {mg:Str→Option Value} {base:Heap} {aB aF aE aS aV:Addr}
theorem at_nat {ns:List Int} {j:Nat} {c:Int} (h:ns[j]? = some c):atI (ns.map V.int) (j:Int) = some (V.int c):=atI_nat (by rw [List.getElem?_map,h]; rfl)
theorem get_of {α:Type} {l:List α} {j:Nat} (h:j < l.length):∃ c,l[j]? = some c:=⟨_,List.getElem?_eq_getElem h⟩
theorem cut_ints (ns:List Int) (i j:Nat) (h:i≤ns.length):cutV (ns.map V.int) (some (i:Int)) (some (j:Int)) = ((ns.drop i).take (j - i)).map V.int:=by
 rw [cut_nat _ _ _ (by rw [List.length_map]; exact h),← List.map_drop,← List.map_take]
abbrev s_token_end:Stmt:=top 21
theorem sc_token_end:FnScope ["t","place","end"] ["t","place"] (defScope s_token_end):=⟨rfl,rfl,rfl,by decide +kernel,rfl,by decide +kernel,by decide +kernel⟩
theorem bi_token_end:Bi "token_end" s_token_end ["t","place"]:=fun _ _ _ _ _ _ us hl=>by (refine o2_1 (len2 hl) fun _ _ y1_2=>?_; subst y1_2); rfl
theorem ok_token_end (F:FnAt K mg "token_end" s_token_end) (T:Txt P w K mg aB aF aE aS aV) (C_bytes_of:Own P w K mg base "bytes_of" 1 ["text"] spBytes) (C_is_letter:Own P w K mg base "is_letter" 2 ["byte"] (spB Mi.isLet)) (C_is_digit:Own P w K mg base "is_digit" 1 ["byte"] (spB Mi.isDig)):Own P w K mg base "token_end" 4 ["t","place"] (spTokEnd K):=by
 refine Own.of F sc_token_end bi_token_end (fun vs H Q E h=>?_) (fun f cdv A outer s H vs Q E hr h=>?_)
 ·(refine o3_2 h fun a ns j y2_3 _=>?_; try clear h; subst y2_3)
  rfl
 ·(refine o3_5 h fun a ns j y3_3 hS hj hlen k=>?_; try clear h; subst y3_3)
  refine ⟨_,(pss_cons (ps_if (pt_cmpR (op_eqInts hr.units) (pe_slice sl_list (pv 0) (po_some (pv 1)) (po_some (pe_op op_add (pv 1) pe_int))) (pe_own C_bytes_of (hr.mono (by decide)) (by rfl) (pa_cons pe_str pa_nil)) (nomark _))
    (pss_one (ps_ret (pe_op op_add (pv 1) pe_int)))
    pss_nil)
   (pss_cons (ps_set (i:=2) sc_token_end.nd rfl (Or.inl rfl) (pv 1))
   (pss_cons (ps_while PassesOwn.never (pt_cut (pw_and (pt_cmpR op_lt (pv 2) (pe_callB call_len_seq (by rfl) T.b_len bo_len (pa_cons (pv 0) pa_nil)) (nomark _)) (pw_and1 (pt_cut (pw_or (pt_val (pe_own C_is_letter (hr.mono (by decide)) (by rfl) (pa_cons (pe_ix ix_list (pv 0) (pv 2) (fun _ _=>rfl)) pa_nil))) (pw_or1 (pt_val (pe_own C_is_digit (hr.mono (by decide)) (by rfl) (pa_cons (pe_ix ix_list (pv 0) (pv 2) (fun _ _=>rfl)) pa_nil))))).pt))).pt)
    (pss_one (ps_aug (i:=2) sc_token_end.nd rfl (Or.inl rfl) pe_int ip_add)))
   (pss_one (ps_ret (pe_callB (call_max2 rfl) (by rfl) T.b_max bo_max (pa_cons (pv 2) (pa_cons (pe_op op_add (pv 1) pe_int) pa_nil)))))))),?_⟩
  try dsimp only [cxOf,Cx.nox]
  refine ⟨_,rfl,_,rfl,_,rfl,_,rfl,_,_,rfl,rfl,_,rfl,a,_,rfl,hS,fun p hp=>?_⟩
  have e1:cutV (ns.map V.int) (some (j:Int)) (some ((j:Int) + 2)) = ((ns.drop j).take 2).map V.int:=by
   have q:=cut_ints ns j (j + 2) (by omega)
   rw [show j + 2 - j = 2 by omega] at q
   exact q
  rw [e1]
  generalize eH:upd H p (.lst (((ns.drop j).take 2).map V.int)) = H1
  have s1:Same H H1:=by rw [← eH]; exact same_new hp
  have hp1:H1 p = some (.lst (((ns.drop j).take 2).map V.int)):=by rw [← eH]; exact upd_same
  refine ⟨_,rfl,by decide +kernel,fun H2 q s2 hq h2=>?_⟩
  have s12:=s1.trans s2
  refine ⟨p,q,(ns.drop j).take 2,Mi.symBytes .to,rfl,rfl,SqL.of (s2 _ _ hp1),SqL.of (by rw [h2,show (codes "--":List Int) = Mi.symBytes .to by decide +kernel]),_,rfl,ite2 (fun h=>?_) (fun h=>?_)⟩
  ·have k':=k H2 s12
   rw [Mi.tokEnd_to (of_decide_eq_true h)] at k'
   exact ⟨_,rfl,_,_,rfl,rfl,k'⟩
  have hne:(ns.drop j).take 2≠[45,45]:=fun e=>h (decide_eq_true e)
  have fin:∀ (e:Nat) (H3:Hp),Same H H3→e = j + Mi.runL ns j→Q (.int (if (j:Int) + 1 > (e:Int) then (j:Int) + 1 else (e:Int))) H3:=fun e H3 s3 he=>by
   have k':=k H3 s3
   rw [Mi.tokEnd_run hne] at k'
   have e2:(if (j:Int) + 1 > (e:Int) then (j:Int) + 1 else (e:Int)) = ((j + max (Mi.runL ns j) 1:Nat):Int):=by
    split <;> omega
   rw [e2]
   exact k'
  refine ⟨_,rfl,fun m σ H'=>∃ e:Nat,m = ns.length - e∧σ = [some (.ref a),some (.int (j:Int)),some (.int (e:Int))]∧Same H H'∧e≤ns.length∧e + Mi.runL ns e = j + Mi.runL ns j,
   ⟨_,j,rfl,rfl,s12,by omega,rfl⟩,?_⟩
  (intro m σ H3 oi4; refine o1_5 oi4 fun e y5_1 y5_2 s3 he hL=>?_; try clear oi4; subst y5_1; subst y5_2)
  refine ⟨fun b H'=>H3 = H'∧(b = true→∃ c,ns[e]? = some c∧Mi.inRun c = true)∧(b = false→Mi.runL ns e = 0),?_,?_⟩
  ·refine ⟨_,rfl,_,rfl,a,_,rfl,.inl (s3.seq hS),_,_,rfl,rfl,_,rfl,ite2 (fun h=>?_) (fun h=>?_)⟩
   ·have hlt:e < ns.length:=by
     have:=of_decide_eq_true h
     rw [List.length_map] at this
     omega
    refine o1_1 (get_of hlt) fun c hc=>?_
    refine ⟨fun b H'=>H3 = H'∧b = Mi.inRun c,?_,?_⟩
    ·refine ⟨_,rfl,_,rfl,a,_,_,_,rfl,rfl,s3.seq hS,at_nat hc,c,rfl,_,rfl,ite2 (fun h=>⟨rfl,?_⟩) (fun h=>⟨_,rfl,_,rfl,a,_,_,_,rfl,rfl,s3.seq hS,at_nat hc,c,rfl,_,rfl,rfl,?_⟩)⟩
     ·unfold Mi.inRun
      rw [h]
      rfl
     ·unfold Mi.inRun
      rw [(by simpa using h:Mi.isLet c = false),Bool.false_or]
    (intro _ _ oi7; refine o0_2 oi7 fun y8_0 y8_1=>?_; try clear oi7; subst y8_0; subst y8_1)
    exact ⟨rfl,fun h=>⟨c,hc,h⟩,fun h=>Mi.runL_out hc h⟩
   ·have hge:ns.length≤e:=by
     have:=mt decide_eq_true h
     rw [List.length_map] at this
     omega
    exact ⟨rfl,fun h=>(by cases h),fun _=>Mi.runL_end hge⟩
  (intro b _ oi9; refine o0_3 oi9 fun y10_0 hb1 hb2=>?_; try clear oi9; subst y10_0)
  refine ite2 (fun h=>?_) (fun h=>?_)
  ·refine o1_2 (hb1 h) fun c hc hci=>?_
   have hlt:=(List.getElem?_eq_some_iff.mp hc).1
   refine ⟨fun σ' H'=>∃ m',m' < ns.length - e∧∃ e:Nat,m' = ns.length - e∧σ' = [some (.ref a),some (.int (j:Int)),some (.int (e:Int))]∧Same H H'∧e≤ns.length∧e + Mi.runL ns e = j + Mi.runL ns j,fun _ _ q=>q,_,rfl,_,_,rfl,rfl,?_⟩
   have hr1:=Mi.runL_in hc hci
   exact ⟨ns.length - (e + 1),by omega,e + 1,rfl,rfl,s3,by omega,by omega⟩
  ·have hr0:=hb2 (by simpa using h)
   exact ⟨_,rfl,_,rfl,_,_,rfl,rfl,_,_,rfl,fin e _ s3 (by omega)⟩
theorem in_blanks (c:Int):inV (.int c) (Mi.blanks.map V.int) = Mi.isBlk c:=by
 rw [Bool.eq_iff_iff]
 simp [inV,Mi.blanks,eqV,Mi.isBlk]
 omega
theorem flat_ints (l:List Int):(l.map V.int).all flatV = true:=by
 rw [List.all_eq_true]
 intro x hx
 (refine o1_2 (List.mem_map.mp hx) fun z _ y12_2=>?_; subst y12_2)
 rfl
theorem ToksAt.snoc {H:Hp} {l q:Addr} {as:List Addr} {ts:List Mi.Tk} {x:Mi.Tk} (h1:H l = some (.lst (as.map V.ref))) (h2:Paired (TkAt H) as ts) (hq:H q = none) :
  ToksAt (upd (upd H q (.tup [.str (nm x.1),.int x.2.1,.int (x.2.2:Int)])) l (.lst (as.map V.ref ++ [.ref q]))) l (ts ++ [x]):=by
 have nql:q≠l:=fun e=>by rw [e,h1] at hq; cases hq
 refine ⟨as ++ [q],by rw [upd_same,List.map_append]; rfl,Paired.snoc (Paired.mapP h2 fun a y e=>?_) ?_⟩
 ·have n1:a≠l:=ne_of e h1 (by intro z; cases z)
  have n2:a≠q:=ne_of_none e hq
  show upd _ _ _ a = _
  rw [upd_ne n1,upd_ne n2]
  exact e
 ·show upd _ _ _ q = _
  rw [upd_ne nql,upd_same]
abbrev s_tokens_of:Stmt:=top 20
theorem sc_tokens_of:FnScope ["t","tokens","place","end","part","kind"] ["t"] (defScope s_tokens_of):=⟨rfl,rfl,rfl,by decide +kernel,rfl,by decide +kernel,by decide +kernel⟩
theorem bi_tokens_of:Bi "tokens_of" s_tokens_of ["t"]:=fun _ _ _ _ _ _ us hl=>by (refine o1_1 (len1 hl) fun _ y13_1=>?_; subst y13_1); rfl
theorem ok_tokens_of (F:FnAt K mg "tokens_of" s_tokens_of) (T:Txt P w K mg aB aF aE aS aV) (C_token_end:Own P w K mg base "token_end" 4 ["t","place"] (spTokEnd K)) (C_kind_of:Own P w K mg base "kind_of" 4 ["part"] (spKind K)) (C_number_of:Own P w K mg base "number_of" 2 ["kind","part"] (spNumber K)):Own P w K mg base "tokens_of" 5 ["t"] (spTokens K):=by
 refine Own.of F sc_tokens_of bi_tokens_of (fun vs H Q E h=>?_) (fun f cdv A outer s H vs Q E hr h=>?_)
 ·(refine o2_2 h fun a ns y14_2 _=>?_; try clear h; subst y14_2)
  rfl
 ·(refine o2_4 h fun a ns y15_2 hS hlen k=>?_; try clear h; subst y15_2)
  refine ⟨_,(pss_cons (ps_set (i:=1) sc_tokens_of.nd rfl (Or.inl rfl) (pe_lst pa_nil))
   (pss_cons (ps_set (i:=2) sc_tokens_of.nd rfl (Or.inl rfl) pe_int)
   (pss_cons (ps_while PassesOwn.never (pt_cmpR op_lt (pv 2) (pe_callB call_len_seq (by rfl) T.b_len bo_len (pa_cons (pv 0) pa_nil)) (nomark _))
    (pss_cons (ps_set (i:=3) sc_tokens_of.nd rfl (Or.inl rfl) (pe_own C_token_end (hr.mono (by decide)) (by rfl) (pa_cons (pv 0) (pa_cons (pv 2) pa_nil))))
    (pss_cons (ps_cut (ps_if (pt_cmpR op_notIn_seq (pe_ix ix_list (pv 0) (pv 2) (fun _ _=>rfl)) (pe_gref (by rfl) T.g_BLANKS) (by with_unfolding_all rfl))
     (pss_cons (ps_set (i:=4) sc_tokens_of.nd rfl (Or.inl rfl) (pe_slice sl_list (pv 0) (po_some (pv 2)) (po_some (pv 3))))
     (pss_cons (ps_set (i:=5) sc_tokens_of.nd rfl (Or.inl rfl) (pe_own C_kind_of (hr.mono (by decide)) (by rfl) (pa_cons (pv 4) pa_nil)))
     (pss_one (ps_expr (pe_bm PySem.F.plainAttrs_list PySem.F.slot_list_append PySem.F.type_list_append mt_append (pv 1) (pa_cons (pe_tup (pa_cons (pv 5) (pa_cons (pe_own C_number_of (hr.mono (by decide)) (by rfl) (pa_cons (pv 5) (pa_cons (pv 4) pa_nil))) (pa_cons (pv 2) pa_nil)))) pa_nil))))))
     pss_nil))
    (pss_one (ps_set (i:=2) sc_tokens_of.nd rfl (Or.inl rfl) (pv 3))))))
   (pss_one (ps_ret (pv 1)))))),?_⟩
  try dsimp only [cxOf,Cx.nox]
  refine ⟨Nat.zero_le _,fun l hl=>?_⟩
  refine ⟨fun m σ H'=>∃ (j:Nat) (x y z:Option V) (ts:List Mi.Tk),m = ns.length - j∧σ = [some (.ref a),some (.ref l),some (.int (j:Int)),x,y,z]∧Same H H'∧ToksAt H' l ts∧ts.length≤j∧j≤ns.length∧Mi.toks 0 ns = ts ++ Mi.toks j (ns.drop j),
   ⟨_,0,none,none,none,[],rfl,rfl,same_new hl,⟨[],upd_same,.nil⟩,Nat.le_refl _,Nat.zero_le _,rfl⟩,?_⟩
  (intro m σ H1 oi16; refine o5_7 oi16 fun j x y z ts y17_5 y17_6 s1 y17_8 htl hjl hT=>?_; try clear oi16; subst y17_5; subst y17_6; refine o1_2 y17_8 fun as ha1 ha2=>?_; try clear y17_8)
  refine ⟨_,rfl,_,rfl,a,_,rfl,.inl (s1.seq hS),_,_,rfl,rfl,_,rfl,ite2 (fun h=>?_) (fun h=>?_)⟩
  ·have hlt:j < ns.length:=by
    have:=of_decide_eq_true h
    rw [List.length_map] at this
    omega
   refine o1_1 (get_of hlt) fun c hc=>?_
   have hpos:=Mi.tokEnd_pos (ns.drop j)
   have hle:j + Mi.tokEnd (ns.drop j)≤ns.length:=by
    have:=Mi.tokEnd_le (l:=ns.drop j) (by rw [Mi.drop_at hc]; simp)
    rw [List.length_drop] at this
    omega
   have hstep:=Mi.toks_step hc
   refine ⟨fun σ' H'=>∃ m',m' < ns.length - j∧∃ (j:Nat) (x y z:Option V) (ts:List Mi.Tk),m' = ns.length - j∧σ' = [some (.ref a),some (.ref l),some (.int (j:Int)),x,y,z]∧Same H H'∧ToksAt H' l ts∧ts.length≤j∧j≤ns.length∧Mi.toks 0 ns = ts ++ Mi.toks j (ns.drop j),fun _ _ q=>q,?_⟩
   refine ⟨_,rfl,_,rfl,a,ns,j,rfl,s1.seq hS,hlt,hlen,fun H2 s2=>?_⟩
   have s12:=s1.trans s2
   refine ⟨fun σ' H'=>∃ (y z:Option V) (ts':List Mi.Tk),σ' = [some (.ref a),some (.ref l),some (.int (j:Int)),some (.int ((j + Mi.tokEnd (ns.drop j):Nat):Int)),y,z]∧Same H H'∧ToksAt H' l ts'∧ts'.length≤j + 1∧Mi.toks 0 ns = ts' ++ Mi.toks (j + Mi.tokEnd (ns.drop j)) (ns.drop (j + Mi.tokEnd (ns.drop j))),?_,?_⟩
   ·refine ⟨_,rfl,_,rfl,a,_,_,_,rfl,rfl,s12.seq hS,at_nat hc,aB,_,rfl,.inr (T.blanks H2),rfl,flat_ints _,_,rfl,ite2 (fun h=>?_) (fun h=>?_)⟩
    ·have hb:Mi.isBlk c = false:=by
      rw [if_pos rfl,in_blanks] at h
      simpa using h
     refine ⟨_,rfl,_,rfl,_,rfl,_,rfl,_,rfl,a,_,rfl,s12.seq hS,fun p hp=>?_⟩
     rw [cut_ints ns j (j + Mi.tokEnd (ns.drop j)) (by omega),show j + Mi.tokEnd (ns.drop j) - j = Mi.tokEnd (ns.drop j) by omega]
     generalize ePart:(ns.drop j).take (Mi.tokEnd (ns.drop j)) = part
     have hne:part≠[]:=by
      rw [← ePart]
      intro q
      have:=congrArg List.length q
      rw [List.length_take,List.length_drop] at this
      simp only [List.length_nil] at this
      omega
     have hpl:part.length≤2000:=by
      rw [← ePart,List.length_take,List.length_drop]
      omega
     generalize eH:upd H2 p (.lst (part.map V.int)) = H3
     have s3:Same H2 H3:=by rw [← eH]; exact same_new hp
     have hp3:H3 p = some (.lst (part.map V.int)):=by rw [← eH]; exact upd_same
     refine ⟨_,rfl,p,part,rfl,SqL.of hp3,hne,hpl,fun H4 s4=>?_⟩
     have hl4:=s4 _ _ (s3 _ _ (s2 _ _ ha1))
     refine ⟨_,rfl,.inl ⟨rfl,_,SqL.of hl4⟩,_,rfl,_,rfl,_,rfl,Mi.kindOf part,p,part,rfl,SqL.of (s4 _ _ hp3),hne,fun H5 s5=>?_⟩
     have s25:Same H2 H5:=(s3.trans s4).trans s5
     have s15:Same H1 H5:=s2.trans s25
     refine ⟨_,rfl,(by show 3≤sizeLine; decide),fun q hq=>?_⟩
     have hl5:H5 l = some (.lst (as.map V.ref)):=s15 _ _ ha1
     have nql:l≠q:=ne_of_none hl5 hq
     refine ⟨l,_,_,rfl,rfl,by rw [upd_ne nql]; exact hl5,?_,?_⟩
     ·rw [List.length_map,Paired.length ha2]
      exact Nat.lt_of_le_of_lt (Nat.le_trans htl (Nat.le_trans hjl hlen)) (by decide)
     ·have hq0:H q = none:=(s1.trans s15).free hq
      have tk:ToksAt _ l (ts ++ [(Mi.kindOf part,Mi.numOf (Mi.kindOf part) part,j)]):=ToksAt.snoc (x:=(Mi.kindOf part,Mi.numOf (Mi.kindOf part) part,j)) hl5 (Paired.mapP ha2 fun b y e=>s15 _ _ e) hq
      refine ⟨_,_,_,rfl,Same.put (Same.put (s1.trans s15) hq0) hl,tk,?_,?_⟩
      ·rw [List.length_append,List.length_singleton]
       omega
      ·rw [hT,hstep,hb,if_neg Bool.false_ne_true,List.append_assoc]
       unfold Mi.tok1
       rw [ePart]
    ·have hb:Mi.isBlk c = true:=by
      rw [if_pos rfl,in_blanks] at h
      simpa using h
     refine ⟨_,_,ts,rfl,s12,⟨as,s2 _ _ ha1,Paired.mapP ha2 fun b y e=>s2 _ _ e⟩,by omega,?_⟩
     rw [hT,hstep,hb,if_pos rfl,List.nil_append]
   ·(intro _ H6 oi20; refine o3_5 oi20 fun y6 z6 ts6 y21_3 s6 hT6 hl6 hN6=>?_; try clear oi20; subst y21_3)
    exact ⟨_,rfl,ns.length - (j + Mi.tokEnd (ns.drop j)),by omega,j + Mi.tokEnd (ns.drop j),_,_,_,ts6,rfl,rfl,s6,hT6,by omega,hle,hN6⟩
  ·have hge:ns.length≤j:=by
    have:=mt decide_eq_true h
    rw [List.length_map] at this
    omega
   rw [List.drop_eq_nil_of_le hge,Mi.toks_nil,List.append_nil] at hT
   refine ⟨_,rfl,k H1 l s1 hl ?_⟩
   rw [hT]
   exact ⟨as,ha1,ha2⟩
theorem count_nm (k:Mi.Sy):∀ l:List Mi.Sy,(l.map nm).count (nm k) = l.count k
 | []=>rfl
 | a :: l=>by
  rw [List.map_cons,List.count_cons,List.count_cons,count_nm k l]
  by_cases e:a = k
  ·subst e; simp
  ·have e':nm a≠nm k:=fun q=>e (nm_inj q)
   simp [e,e']
theorem AwAt.strs {H:Hp} {a:Addr} {st:List Mi.Sy} (h:AwAt H a st):SqL K H a ((st.reverse.map nm).map V.str):=by
 rw [List.map_map]
 exact SqL.of h
abbrev s_too_deep:Stmt:=top 19
theorem sc_too_deep:FnScope ["awaited"] ["awaited"] (defScope s_too_deep):=⟨rfl,rfl,rfl,by decide +kernel,rfl,by decide +kernel,by decide +kernel⟩
theorem bi_too_deep:Bi "too_deep" s_too_deep ["awaited"]:=fun _ _ _ _ _ _ us hl=>by (refine o1_1 (len1 hl) fun _ y22_1=>?_; subst y22_1); rfl
theorem ok_too_deep (F:FnAt K mg "too_deep" s_too_deep) (T:Txt P w K mg aB aF aE aS aV):Own P w K mg base "too_deep" 1 ["awaited"] spDeep:=by
 refine Own.of F sc_too_deep bi_too_deep (fun vs H Q E h=>?_) (fun f cdv A outer s H vs Q E hr h=>?_)
 ·(refine o2_2 h fun a st y23_2 _=>?_; try clear h; subst y23_2)
  rfl
 ·(refine o2_3 h fun a st y24_2 hA k=>?_; try clear h; subst y24_2)
  refine ⟨_,(pss_one (ps_ret (pe_cmpR op_gt (pe_op op_add (pe_bm PySem.F.plainAttrs_list PySem.F.slot_list_count PySem.F.type_list_count mt_countS (pv 0) (pa_cons pe_str pa_nil)) (pe_bm PySem.F.plainAttrs_list PySem.F.slot_list_count PySem.F.type_list_count mt_countS (pv 0) (pa_cons pe_str pa_nil))) (pe_gint (by rfl) T.g_DEEPEST) (nomark _)))),?_⟩
  try dsimp only [cxOf,Cx.nox]
  have hs:SqL K H a ((st.reverse.map nm).map V.str):=hA.strs
  refine ⟨_,rfl,.inl ⟨rfl,_,hs⟩,a,_,_,rfl,rfl,hs,_,rfl,.inl ⟨rfl,_,hs⟩,a,_,_,rfl,rfl,hs,_,_,rfl,rfl,_,_,rfl,rfl,?_⟩
  have e1:(st.reverse.map nm).count (")":Str) = st.count .cp:=by rw [show (")":Str) = nm .cp from rfl,count_nm,List.count_reverse]
  have e2:(st.reverse.map nm).count ("]":Str) = st.count .cb:=by rw [show ("]":Str) = nm .cb from rfl,count_nm,List.count_reverse]
  have e3:=Mi.cnt_count st
  have e4:decide ((40:Int) < (((st.reverse.map nm).count (")":Str):Nat):Int) + (((st.reverse.map nm).count ("]":Str):Nat):Int)) = decide (40 < Mi.cnt st):=by
   rw [e1,e2,← e3]
   exact decide_eq_decide.mpr (by omega)
  rw [← e4] at k
  exact k
theorem aw_last (w:Mi.Sy) (r:List Mi.Sy):((w :: r).reverse.map fun k=>V.str (nm k)) = (r.reverse.map fun k=>V.str (nm k)) ++ [V.str (nm w)]:=by simp
theorem aw_at (w:Mi.Sy) (r:List Mi.Sy):atI ((w :: r).reverse.map fun k=>V.str (nm k)) (-1) = some (V.str (nm w)):=by rw [aw_last]; exact atI_last _ _
theorem aw_pop (w:Mi.Sy) (r:List Mi.Sy):((w :: r).reverse.map fun k=>V.str (nm k))[((w :: r).reverse.map fun k=>V.str (nm k)).length - 1]? = some (V.str (nm w)):=by rw [aw_last]; simp
theorem aw_drop (w:Mi.Sy) (r:List Mi.Sy):((w :: r).reverse.map fun k=>V.str (nm k)).dropLast = r.reverse.map fun k=>V.str (nm k):=by rw [aw_last]; simp
theorem aw_cat (l st:List Mi.Sy):(st.reverse.map fun k=>V.str (nm k)) ++ (l.reverse.map fun k=>V.str (nm k)) = (l ++ st).reverse.map fun k=>V.str (nm k):=by simp
theorem eq_items {z:Mi.Sy}:decide (z = .items) = decide (V.str (nm z) = V.str "items"):=decide_eq_decide.mpr (v_nm (b:=.items)).symm
theorem eq_item {z:Mi.Sy}:decide (z = .item) = decide (V.str (nm z) = V.str "item"):=decide_eq_decide.mpr (v_nm (b:=.item)).symm
theorem starts_in {m:Str→Option Value} {z:Mi.Sy} (h:match Mi.starts z with | none=>m (nm z) = none | some l=>∃ b,m (nm z) = some (.ref b)∧∀ H,SqT K H b (l.reverse.map fun k=>V.str (nm k))) :
  (if true = true then !(m (nm z)).isSome else (m (nm z)).isSome) = (Mi.starts z).isNone:=by
 cases e:Mi.starts z with
 | none=>rw [e] at h; rw [show m (nm z) = none from h]; rfl
 | some l=>rw [e] at h; (refine o1_2 h fun b hb _=>?_; try clear h); rw [hb]; rfl
theorem starts_in2 {m:Str→Option Value} {z:Mi.Sy} (h:match Mi.starts z with | none=>m (nm z) = none | some l=>∃ b,m (nm z) = some (.ref b)∧∀ H,SqT K H b (l.reverse.map fun k=>V.str (nm k))) :
  (if false = true then !(m (nm z)).isSome else (m (nm z)).isSome) = (Mi.starts z).isSome:=by
 cases e:Mi.starts z with
 | none=>rw [e] at h; rw [show m (nm z) = none from h]; rfl
 | some l=>rw [e] at h; (refine o1_2 h fun b hb _=>?_; try clear h); rw [hb]; rfl
def spAwait2:Sp:=fun vs H Q _=>∃ (k:Mi.Sy) (a:Addr) (st:List Mi.Sy),vs = [.str (nm k),.ref a]∧Mi.goodK k = true∧AwAt H a st∧st≠[]∧Mi.NoII st∧st.length≤100000 ∧
 (∀ H':Hp,Same H H'→Mi.step k st = none→Q .non H')∧∀ (H':Hp) (p:Addr) (st':List Mi.Sy),Same H H'→Mi.step k st = some st'→AwAt H' p st'→Q (.ref p) H'
abbrev s_awaited_behind:Stmt:=top 18
theorem sc_awaited_behind:FnScope ["kind","awaited","rest","wanted"] ["kind","awaited"] (defScope s_awaited_behind):=⟨rfl,rfl,rfl,by decide +kernel,rfl,by decide +kernel,by decide +kernel⟩
theorem bi_awaited_behind:Bi "awaited_behind" s_awaited_behind ["kind","awaited"]:=fun _ _ _ _ _ _ us hl=>by (refine o2_1 (len2 hl) fun _ _ y27_2=>?_; subst y27_2); rfl
theorem ok_awaited_behind (F:FnAt K mg "awaited_behind" s_awaited_behind) (T:Txt P w K mg aB aF aE aS aV):Own P w K mg base "awaited_behind" 1 ["kind","awaited"] spAwait2:=by
 refine Own.of F sc_awaited_behind bi_awaited_behind (fun vs H Q E h=>?_) (fun f cdv A outer s H vs Q E hr h=>?_)
 ·(refine o3_2 h fun z a st y28_3 _=>?_; try clear h; subst y28_3)
  rfl
 ·(refine o3_8 h fun z a st y29_3 hz hA hne hii hlen kN kS=>?_; try clear h; subst y29_3)
  refine o1_2 T.starts fun m hm hst=>?_
  have hstz:=hst z hz
  refine ⟨_,(pss_cons (ps_set (i:=2) sc_awaited_behind.nd rfl (Or.inl rfl) (pe_callTy call_list_of (by rfl) T.b_list bo_list (pa_cons (pv 1) pa_nil)))
   (pss_cons (ps_cut (ps_if (pt_cut (pw_and (pt_cmpR op_eq (pe_ix ix_list (pv 2) (pe_un un_neg pe_int) (fun _ _=>rfl)) pe_str (nomark _)) (pw_and1 (pt_cmp (pc_knotin (pv 0) (pe_gref (by rfl) T.g_ITEM_STARTS))))).pt)
    (pss_one (ps_expr (pe_bm0 PySem.F.plainAttrs_list PySem.F.slot_list_pop PySem.F.type_list_pop mt_pop (pv 2))))
    pss_nil))
   (pss_cons (ps_if (pt_cmpR (op_eqStrs hr.units) (pv 2) (pe_lst pa_nil) (nomark _))
    (pss_one (ps_ret pe_non))
    pss_nil)
   (pss_cons (ps_set (i:=3) sc_awaited_behind.nd rfl (Or.inl rfl) (pe_ix ix_list (pv 2) (pe_un un_neg pe_int) (fun _ _=>rfl)))
   (pss_cons (ps_if (pt_cmpR op_eq (pv 3) pe_str (nomark _))
    (pss_one (ps_ret (pe_op op_cat (pv 2) (pe_callTy call_list_of (by rfl) T.b_list bo_list (pa_cons (pe_kget (pe_gref (by rfl) T.g_ITEM_STARTS) (pv 0) (fun _ _=>rfl)) pa_nil)))))
    pss_nil)
   (pss_cons (ps_expr (pe_bm0 PySem.F.plainAttrs_list PySem.F.slot_list_pop PySem.F.type_list_pop mt_pop (pv 2)))
   (pss_cons (ps_if (pt_cut (pw_and (pt_cmpR op_eq (pv 3) pe_str (nomark _)) (pw_and1 (pt_cmp (pc_kin (pv 0) (pe_gref (by rfl) T.g_ITEM_STARTS))))).pt)
    (pss_one (ps_ret (pe_op op_cat (pv 2) (pe_callTy call_list_of (by rfl) T.b_list bo_list (pa_cons (pe_kget (pe_gref (by rfl) T.g_ITEM_STARTS) (pv 0) (fun _ _=>rfl)) pa_nil)))))
    pss_nil)
   (pss_cons (ps_if (pt_cmpR op_eq (pv 3) (pv 0) (nomark _))
    (pss_one (ps_ret (pv 2)))
    pss_nil)
   (pss_one (ps_ret pe_non)))))))))),?_⟩
  try dsimp only [cxOf,Cx.nox]
  (refine o2_1 (cons_of hne) fun v r y31_2=>?_; subst y31_2)
  refine ⟨_,rfl,a,_,rfl,.inl (SqL.of hA),fun p hp=>?_⟩
  generalize eH:upd H p (.lst ((v :: r).reverse.map fun k=>V.str (nm k))) = H1
  have s1:Same H H1:=by rw [← eH]; exact same_new hp
  have hp1:AwAt H1 p (v :: r):=by rw [← eH]; exact upd_same
  refine ⟨fun σ' H'=>∃ st2:List Mi.Sy,σ' = [some (.str (nm z)),some (.ref a),some (.ref p),none]∧Same H H'∧AwAt H' p st2∧st2.length≤100000∧(st2 = []→Mi.step z (v :: r) = none) ∧
   ∀ u q,st2 = u :: q→Mi.step z (v :: r) = Mi.step z (u :: q)∧(u = .items→Mi.starts z≠none),?_,?_⟩
  ·refine ⟨fun b H'=>H1 = H'∧b = (decide (v = .items) && (Mi.starts z).isNone),?_,?_⟩
   ·refine ⟨_,rfl,_,rfl,p,_,_,_,rfl,rfl,SqL.of hp1,aw_at v r,rfl,_,rfl,ite2 (fun h=>?_) (fun h=>⟨rfl,?_⟩)⟩
    ·refine ⟨_,rfl,aS,nm z,m,rfl,rfl,hm,_,rfl,rfl,?_⟩
     rw [eq_items,h,Bool.true_and]
     exact starts_in hstz
    ·rw [eq_items,(by simpa using h:decide (V.str (nm v) = V.str "items") = false),Bool.false_and]
   (intro _ _ oi32; refine o0_2 oi32 fun y33_0 y33_1=>?_; try clear oi32; subst y33_0; subst y33_1)
   refine ite2 (fun h=>?_) (fun h=>?_)
   ·simp only [Bool.and_eq_true,decide_eq_true_eq,Option.isNone_iff_eq_none] at h
    (refine o0_2 h fun y34_0 e=>?_; try clear h; subst y34_0)
    refine ⟨_,rfl,.inl ⟨rfl,_,SqL.of hp1⟩,p,_,_,rfl,rfl,hp1,aw_pop _ _,?_⟩
    rw [aw_drop]
    refine ⟨r,rfl,Same.put s1 hp,upd_same,by simp at hlen; omega,fun q=>by subst q; simp [Mi.step,e],fun u q eu=>?_⟩
    subst eu
    have hu:u≠.items:=fun q=>hii.1 ⟨rfl,q⟩
    refine ⟨?_,fun q=>absurd q hu⟩
    by_cases hu2:u = .item
    ·subst hu2
     have:¬ Mi.Sy.item = z:=fun q=>by subst q; simp [Mi.goodK] at hz
     simp [Mi.step,e,this]
    ·rw [Mi.step_other hu hu2]
     simp [Mi.step,e]
   ·refine ⟨v :: r,rfl,s1,hp1,hlen,fun q=>(by cases q),fun u q eu=>?_⟩
    cases eu
    refine ⟨rfl,fun q e=>h ?_⟩
    simp [q,e]
  (intro σ H2 oi35; refine o1_6 oi35 fun st2 y36_1 s2 h2 hl2 h0 h1=>?_; try clear oi35; subst y36_1)
  have hs2:SqL K H2 p ((st2.reverse.map nm).map V.str):=h2.strs
  refine ⟨_,rfl,Nat.zero_le _,fun q hq=>⟨p,q,st2.reverse.map nm,[],rfl,rfl,(same_new hq).seq hs2,SqL.of upd_same,nms_ok _,rfl,_,rfl,?_⟩⟩
  generalize eH3:upd H2 q (.lst []) = H3
  have s3:Same H H3:=by rw [← eH3]; exact s2.trans (same_new hq)
  have hp3:AwAt H3 p st2:=by rw [← eH3]; exact (same_new hq) _ _ h2
  cases st2 with
  | nil=>exact iteT (kN H3 s3 (h0 rfl))
  | cons u q2 =>
   refine o0_2 (h1 u q2 rfl) fun e1 e2=>?_
   refine ite2 (fun h=>absurd (of_decide_eq_true h) (by simp)) (fun _=>?_)
   refine ⟨_,rfl,_,rfl,p,_,_,_,rfl,rfl,SqL.of hp3,aw_at u q2,?_⟩
   refine ⟨_,rfl,rfl,_,rfl,ite2 (fun h=>?_) (fun h=>?_)⟩
   ·have hu:u = .items:=v_nm.mp (of_decide_eq_true h)
    subst hu
    cases e:Mi.starts z with
    | none=>exact absurd e (e2 rfl)
    | some l =>
     rw [e] at hstz
     (refine o1_2 hstz fun b hb hbt=>?_; try clear hstz)
     refine ⟨_,rfl,_,rfl,aS,nm z,m,.ref b,_,rfl,rfl,hm,hb,rfl,b,_,rfl,.inr (hbt H3),fun d hd=>?_⟩
     refine ⟨p,d,_,_,rfl,rfl,(same_new hd) _ _ hp3,upd_same,?_,fun g hg=>?_⟩
     ·have:=Mi.starts_len z e
      simp only [List.length_map,List.length_reverse]
      exact Nat.le_trans (Nat.add_le_add hl2 this) (show 100000 + 6≤sizeLine by decide)
     ·refine kS _ g (l ++ .items :: q2) ((s3.trans (same_new hd)).trans (same_new hg)) (by rw [e1]; simp [Mi.step,e]) ?_
      show upd _ _ _ g = _
      rw [upd_same,aw_cat]
   have hu:u≠.items:=fun q=>h (by subst q; exact decide_eq_true rfl)
   refine ⟨_,rfl,.inl ⟨rfl,_,SqL.of hp3⟩,p,_,_,rfl,rfl,hp3,aw_pop _ _,?_⟩
   rw [aw_drop]
   generalize eH4:upd H3 p (.lst (q2.reverse.map fun k=>V.str (nm k))) = H4
   have s4:Same H H4:=by rw [← eH4]; exact Same.put s3 hp
   have hp4:AwAt H4 p q2:=by rw [← eH4]; exact upd_same
   refine ⟨fun b H'=>H4 = H'∧b = (decide (u = .item) && (Mi.starts z).isSome),?_,?_⟩
   ·refine ⟨_,rfl,rfl,_,rfl,ite2 (fun h=>?_) (fun h=>⟨rfl,?_⟩)⟩
    ·refine ⟨_,rfl,aS,nm z,m,rfl,rfl,hm,_,rfl,rfl,?_⟩
     rw [eq_item,h,Bool.true_and]
     exact starts_in2 hstz
    ·rw [eq_item,(by simpa using h:decide (V.str (nm u) = V.str "item") = false),Bool.false_and]
   (intro _ _ oi39; refine o0_2 oi39 fun y40_0 y40_1=>?_; try clear oi39; subst y40_0; subst y40_1)
   refine ite2 (fun h=>?_) (fun h=>?_)
   ·simp only [Bool.and_eq_true,decide_eq_true_eq] at h
    (refine o0_2 h fun y41_0 hs=>?_; try clear h; subst y41_0)
    refine o1_1 (Option.isSome_iff_exists.mp hs) fun l e=>?_
    rw [e] at hstz
    (refine o1_2 hstz fun b hb hbt=>?_; try clear hstz)
    refine ⟨_,rfl,_,rfl,aS,nm z,m,.ref b,_,rfl,rfl,hm,hb,rfl,b,_,rfl,.inr (hbt _),fun d hd=>?_⟩
    refine ⟨p,d,_,_,rfl,rfl,(same_new hd) _ _ hp4,upd_same,?_,fun g hg=>?_⟩
    ·have:=Mi.starts_len z e
     simp only [List.length_map,List.length_reverse]
     simp only [List.length_cons] at hl2
     exact Nat.le_trans (Nat.add_le_add (Nat.le_of_succ_le hl2) this) (show 100000 + 6≤sizeLine by decide)
    ·refine kS _ g (l ++ q2) ((s4.trans (same_new hd)).trans (same_new hg)) (by rw [e1]; simp [Mi.step,e]) ?_
     show upd _ _ _ g = _
     rw [upd_same,aw_cat]
   ·have el:Mi.step z (v :: r) = if u = z then some q2 else none:=by
     rw [e1]
     by_cases hu2:u = .item
     ·subst hu2
      have hn:¬ Mi.Sy.item = z:=fun q=>by subst q; simp [Mi.goodK] at hz
      have e:Mi.starts z = none:=by simpa using h
      simp [Mi.step,e,hn]
     ·exact Mi.step_other hu hu2
    refine ⟨_,rfl,_,rfl,rfl,_,rfl,ite2 (fun h=>?_) (fun h=>?_)⟩
    ·have hu:u = z:=v_nm.mp (of_decide_eq_true h)
     rw [if_pos hu] at el
     exact ⟨_,rfl,kS _ p q2 s4 el hp4⟩
    ·have hu:u≠z:=fun q=>h (by subst q; exact decide_eq_true rfl)
     rw [if_neg hu] at el
     exact kN _ s4 el
abbrev s_fault_place:Stmt:=top 17
theorem sc_fault_place:FnScope ["t","awaited","kind","number","place"] ["t"] (defScope s_fault_place):=⟨rfl,rfl,rfl,by decide +kernel,rfl,by decide +kernel,by decide +kernel⟩
theorem bi_fault_place:Bi "fault_place" s_fault_place ["t"]:=fun _ _ _ _ _ _ us hl=>by (refine o1_1 (len1 hl) fun _ y44_1=>?_; subst y44_1); rfl
theorem ok_fault_place (F:FnAt K mg "fault_place" s_fault_place) (T:Txt P w K mg aB aF aE aS aV) (C_tokens_of:Own P w K mg base "tokens_of" 5 ["t"] (spTokens K)) (C_awaited_behind:Own P w K mg base "awaited_behind" 1 ["kind","awaited"] spAwait2) (C_too_deep:Own P w K mg base "too_deep" 1 ["awaited"] spDeep):Own P w K mg base "fault_place" 6 ["t"] (spFault K):=by
 refine Own.of F sc_fault_place bi_fault_place (fun vs H Q E h=>?_) (fun f cdv A outer s H vs Q E hr h=>?_)
 ·(refine o2_2 h fun a ns y45_2 _=>?_; try clear h; subst y45_2)
  rfl
 ·(refine o2_5 h fun a ns y46_2 hS hlen kN kS=>?_; try clear h; subst y46_2)
  refine ⟨_,(pss_cons (ps_set (i:=1) sc_fault_place.nd rfl (Or.inl rfl) (pe_callTy call_list_of (by rfl) T.b_list bo_list (pa_cons (pe_gref (by rfl) T.g_EFFECT) pa_nil)))
   (pss_cons (ps_for PassesOwn.never rfl (pi_list (pe_own C_tokens_of (hr.mono (by decide)) (by rfl) (pa_cons (pv 0) pa_nil))) (pg_tup rfl (pgs_cons (pg_name (i:=2) sc_fault_place.nd rfl (Or.inl rfl)) (pgs_cons (pg_name (i:=3) sc_fault_place.nd rfl (Or.inl rfl)) (pgs_cons (pg_name (i:=4) sc_fault_place.nd rfl (Or.inl rfl)) pgs_nil))))
    (pss_cons (ps_set (i:=1) sc_fault_place.nd rfl (Or.inl rfl) (pe_own C_awaited_behind (hr.mono (by decide)) (by rfl) (pa_cons (pv 2) (pa_cons (pv 1) pa_nil))))
    (pss_one (ps_if (pt_cut (pw_or (pt_cmp (pc_isN (pv 1))) (pw_or1 (pt_val (pe_own C_too_deep (hr.mono (by decide)) (by rfl) (pa_cons (pv 1) pa_nil))))).pt)
     (pss_one (ps_ret (pv 4)))
     pss_nil))))
   (pss_cons (ps_if (pt_cmpR (op_eqStrs hr.units) (pv 1) (pe_lst (pa_cons pe_str pa_nil)) (nomark _))
    (pss_one (ps_ret pe_non))
    pss_nil)
   (pss_one (ps_ret (pe_callB call_len_seq (by rfl) T.b_len bo_len (pa_cons (pv 0) pa_nil))))))),?_⟩
  try dsimp only [cxOf,Cx.nox]
  refine ⟨aE,_,rfl,.inr (T.effect H),fun p hp=>?_⟩
  generalize eH:upd H p (.lst (Mi.start0.reverse.map fun k=>V.str (nm k))) = H1
  have s1:Same H H1:=by rw [← eH]; exact same_new hp
  have hp1:AwAt H1 p Mi.start0:=by rw [← eH]; exact upd_same
  refine ⟨_,rfl,a,ns,rfl,s1.seq hS,by omega,fun H2 l s2 hl2 hT=>?_⟩
  (refine o1_2 hT fun as ha1 ha2=>?_; try clear hT)
  have s12:=s1.trans s2
  have htl:(Mi.toks 0 ns).length≤1024:=Nat.le_trans (Mi.toks_len _ _ _) hlen
  have eF:Mi.fault ns = Mi.runT ns.length (Mi.toks 0 ns) Mi.start0:=rfl
  generalize hts:Mi.toks 0 ns = ts at ha2 htl eF
  have hgood:∀ x ∈ ts,Mi.goodK x.1 = true:=by rw [← hts]; exact Mi.toks_good 0 ns
  refine ⟨l,rfl,⟨_,SqL.of ha1⟩,for_list (K:=K) (a:=l) (xs:=as.map V.ref) (fun i σ H'=>∃ (b:Addr) (st:List Mi.Sy) (x y z:Option V),σ = [some (.ref a),some (.ref b),x,y,z]∧Same H2 H'∧AwAt H' b st∧Mi.Bot st∧Mi.NoII st∧st.length≤5 + 6 * i∧Mi.fault ns = Mi.runT ns.length (ts.drop i) st)
   ⟨p,Mi.start0,none,none,none,rfl,Same.refl _,s2 _ _ hp1,Mi.start_bot,Mi.start_ii,Nat.le_refl _,eF⟩ (fun i σ H' _ ⟨_,_,_,_,_,_,s3,_⟩=>SqL.of (s3 _ _ ha1)) ?_ ?_⟩
  ·(intro i y σ H3 hi oi48; refine o5_7 oi48 fun b st x y' z y49_5 s3 hA hB hI hL hF=>?_; try clear oi48; subst y49_5)
   (refine o1_2 (map_at hi) fun c hc y0_2=>?_; subst y0_2)
   refine o1_2 (paired_get ha2 hc) fun tk htk hat=>?_
   have hi2:i < ts.length:=(List.getElem?_eq_some_iff.mp htk).1
   have hg:Mi.goodK tk.1 = true:=hgood tk (List.mem_of_getElem? htk)
   rw [Mi.drop_at htk] at hF
   simp only [Mi.runT] at hF
   refine ⟨c,_,rfl,SqT.of (s3 _ _ hat),rfl,_,_,rfl,_,_,rfl,_,_,rfl,rfl,?_⟩
   refine ⟨_,rfl,_,rfl,tk.1,b,st,rfl,hg,hA,hB.ne,hI,by omega,fun H4 s4 hs=>?_,fun H4 d st' s4 hs hd=>?_⟩
   ·rw [hs] at hF
    refine ⟨fun b H'=>H4 = H'∧b = true,⟨_,rfl,_,rfl,⟨rfl,rfl⟩⟩,?_⟩
    (intro _ _ oi52; refine o0_2 oi52 fun y3_0 y3_1=>?_; try clear oi52; subst y3_0; subst y3_1)
    exact ⟨_,rfl,kS _ _ ((s12.trans s3).trans s4) hF⟩
   ·rw [hs] at hF
    refine o0_2 (Mi.step_bot hg hB hs) fun hB' hL'=>?_
    refine ⟨fun b H'=>H4 = H'∧b = decide (40 < Mi.cnt st'),⟨_,rfl,_,rfl,⟨_,rfl,d,st',rfl,hd,_,rfl,rfl,rfl⟩⟩,?_⟩
    (intro _ _ oi55; refine o0_2 oi55 fun y6_0 y6_1=>?_; try clear oi55; subst y6_0; subst y6_1)
    refine ite2 (fun h=>?_) (fun h=>?_)
    ·have h':=of_decide_eq_true h
     simp only [h',if_true] at hF
     exact ⟨_,rfl,kS _ _ ((s12.trans s3).trans s4) hF⟩
    ·have h':¬ 40 < Mi.cnt st':=fun q=>h (decide_eq_true q)
     simp only [h',if_false] at hF
     exact ⟨d,st',_,_,_,rfl,s3.trans s4,hd,hB',Mi.step_ii hI hs,by omega,hF⟩
  ·(intro σ H3 oi57; refine o5_7 oi57 fun b st x y z y8_5 s3 hA hB hI hL hF=>?_; try clear oi57; subst y8_5)
   rw [List.length_map,Paired.length ha2,List.drop_length] at hF
   have hsA:SqL K H3 b ((st.reverse.map nm).map V.str):=hA.strs
   have s13:=s12.trans s3
   refine ⟨_,rfl,by decide,fun q hq=>⟨b,q,st.reverse.map nm,["items"],rfl,rfl,(same_new hq).seq hsA,SqL.of upd_same,nms_ok _,by decide +kernel,_,rfl,ite2 (fun h=>?_) (fun h=>?_)⟩⟩
   ·have e:st = [.items]:=by
     have q1:st.reverse.map nm = [Mi.Sy.items].map nm:=of_decide_eq_true h
     have q2:=nms_inj q1
     have q3:=congrArg List.reverse q2
     simpa using q3
    subst e
    exact kN _ (s13.trans (same_new (o:=.lst [V.str "items"]) hq)) hF
   ·have e:st≠[.items]:=fun q=>h (by subst q; exact decide_eq_true rfl)
    simp only [Mi.runT] at hF
    rw [if_neg e] at hF
    refine ⟨_,rfl,a,_,rfl,.inl ((s13.trans (same_new (o:=.lst [V.str "items"]) hq)).seq hS),?_⟩
    have k':=kS _ _ (s13.trans (same_new (o:=.lst [V.str "items"]) hq)) hF
    rw [List.length_map]
    exact k'
abbrev s_refusal_of:Stmt:=top 16
theorem sc_refusal_of:FnScope ["texts","which","text","place"] ["texts"] (defScope s_refusal_of):=⟨rfl,rfl,rfl,by decide +kernel,rfl,by decide +kernel,by decide +kernel⟩
theorem bi_refusal_of:Bi "refusal_of" s_refusal_of ["texts"]:=fun _ _ _ _ _ _ us hl=>by (refine o1_1 (len1 hl) fun _ y9_1=>?_; subst y9_1); rfl
theorem ok_refusal_of (F:FnAt K mg "refusal_of" s_refusal_of) (T:Txt P w K mg aB aF aE aS aV) (C_fault_place:Own P w K mg base "fault_place" 6 ["t"] (spFault K)):Own P w K mg base "refusal_of" 7 ["texts"] (spRefusal K):=by
 refine Own.of F sc_refusal_of bi_refusal_of (fun vs H Q E h=>?_) (fun f cdv A outer s H vs Q E hr h=>?_)
 ·(refine o2_2 h fun a nss y10_2 _=>?_; try clear h; subst y10_2)
  rfl
 ·(refine o2_5 h fun a nss y11_2 y11_3 hlen kN kS=>?_; try clear h; subst y11_2; refine o1_2 y11_3 fun as ha1 ha2=>?_; try clear y11_3)
  refine ⟨_,(pss_cons (ps_if (pt_val (pe_callB (cr_any rfl) (by rfl) T.b_any bo_any (pa_cons (pe_lc (own:=[("text",2)]) rfl sc_refusal_of.nd (pi_list (pv 0)) (blkOk_by (by show blkC ["texts","which","text","place"] (defScope s_refusal_of) _ _ = true; decide +kernel)) (fun _ _ _ _ _=>(pg_name (i:=2) sc_refusal_of.nd rfl (Or.inl rfl))) (fun _ _ _ _ _=>pts_nil) (fun _ _ _ _ _=>(pe_cmpR op_gt (pe_callB (call_len_seqK (K:=K) rfl) (by rfl) T.b_len bo_len (pa_cons (pv 2) pa_nil)) (pe_gint (by rfl) T.g_LONGEST) (nomark _)))) pa_nil)))
    (pss_one (ps_ret (pe_lst (pa_cons (pe_un un_neg pe_int) pa_nil))))
    pss_nil)
   (pss_cons (ps_for PassesOwn.never rfl (pi_enum1 (by rfl) T.b_enumerate (pa_cons (pv 0) pa_nil) pe_int) (pg_tup rfl (pgs_cons (pg_name (i:=1) sc_refusal_of.nd rfl (Or.inl rfl)) (pgs_cons (pg_name (i:=2) sc_refusal_of.nd rfl (Or.inl rfl)) pgs_nil)))
    (pss_cons (ps_set (i:=3) sc_refusal_of.nd rfl (Or.inl rfl) (pe_own C_fault_place (hr.mono (by decide)) (by rfl) (pa_cons (pv 2) pa_nil)))
    (pss_one (ps_if (pt_cmp (pc_notN (pv 3)))
     (pss_one (ps_ret (pe_lst (pa_cons (pe_un un_neg pe_int) (pa_cons (pv 1) (pa_cons (pv 3) pa_nil))))))
     pss_nil))))
   (pss_one (ps_ret pe_non)))),?_⟩
  try dsimp only [cxOf,Cx.nox]
  refine ⟨_,rfl,a,rfl,⟨_,SqL.of ha1⟩,fun D hD=>lc_list (K:=K) (a:=a) (xs:=as.map V.ref) (fun i H'=>Same H H'∧H' D = some (.lst (((nss.map fun ns=>decide (1024 < ns.length)).take i).map V.bl))) ⟨same_new hD,upd_same⟩ (fun i H' _ q=>SqL.of (q.1 _ _ ha1)) ?_ ?_⟩
  ·(intro i y H' hi oi63; refine o0_2 oi63 fun s1 hD'=>?_; try clear oi63)
   (refine o1_2 (map_at hi) fun c hc y15_2=>?_; subst y15_2)
   refine o1_2 (paired_get ha2 hc) fun ns hns hat=>?_
   refine ⟨rfl,_,rfl,c,_,rfl,.inl (s1.seq hat),_,_,rfl,rfl,_,hD',?_,Same.put s1 hD,?_⟩
   ·rw [List.length_map,List.length_take,List.length_map]
    exact Nat.lt_of_le_of_lt (Nat.le_trans (Nat.min_le_right _ _) hlen) (by decide)
   ·rw [upd_same,take_snoc (l:=nss.map fun ns=>decide (1024 < ns.length)) (x:=decide (1024 < ns.length)) (by rw [List.getElem?_map,hns]; rfl),List.map_append,List.length_map]
    have e:decide ((1024:Int) < (ns.length:Int)) = decide (1024 < ns.length):=decide_eq_decide.mpr (by omega)
    show some (HO.lst (_ ++ [V.bl (decide ((1024:Int) < (ns.length:Int)))])) = _
    rw [e]
    rfl
  (intro H1 oi67; refine o0_2 oi67 fun s1 hD1=>?_; try clear oi67)
  have hD2:H1 D = some (.lst ((nss.map fun ns=>decide (1024 < ns.length)).map V.bl)):=by
   rw [hD1,List.length_map,Paired.length ha2,← List.length_map (as:=nss) (f:=fun ns=>decide (1024 < ns.length)),List.take_length]
  refine ⟨D,_,rfl,SqL.of hD2,_,rfl,ite2 (fun h=>?_) (fun h=>?_)⟩
  ·refine ⟨_,rfl,by decide,fun p hp=>kS _ p [-6] (s1.trans (same_new hp)) ?_ upd_same⟩
   unfold Mi.refusals
   rw [if_pos h]
  ·have eR:Mi.refusals nss = Mi.faults 1 nss:=by
    unfold Mi.refusals
    rw [if_neg h]
   have hall:∀ ns ∈ nss,ns.length≤1024:=fun ns hm=>by
    refine Nat.le_of_not_lt fun q=>h ?_
    rw [List.any_map,List.any_eq_true]
    exact ⟨ns,hm,decide_eq_true q⟩
   refine ⟨_,rfl,a,_,rfl,rfl,SqL.of (s1 _ _ ha1),for_enum1 (K:=K) (a:=a) (xs:=as.map V.ref) (fun i σ H'=>∃ (x y z:Option V),σ = [some (.ref a),x,y,z]∧Same H H'∧Mi.refusals nss = Mi.faults (i + 1) (nss.drop i))
    ⟨none,none,none,rfl,s1,eR⟩ (fun i σ H' _ ⟨_,_,_,_,s2,_⟩=>SqL.of (s2 _ _ ha1)) ?_ ?_⟩
   ·(intro i y T' σ H2 hi oi69; refine o3_3 oi69 fun x y' z y20_3 s2 hF=>?_; try clear oi69; subst y20_3; intro hT')
    (refine o1_2 (map_at hi) fun c hc y21_2=>?_; subst y21_2)
    refine o1_2 (paired_get ha2 hc) fun ns hns hat=>?_
    rw [Mi.drop_at hns] at hF
    simp only [Mi.faults] at hF
    have s3:Same H (upd H2 T' (.tup [.int ((i + 1:Nat):Int),.ref c])):=s2.trans (same_new hT')
    refine ⟨T',_,rfl,SqT.of upd_same,rfl,_,_,rfl,_,_,rfl,rfl,?_⟩
    refine ⟨_,rfl,c,ns,rfl,s3.seq hat,hall ns (List.mem_of_getElem? hns),fun H4 s4 hf=>?_,fun H4 p s4 hf=>?_⟩
    ·rw [hf] at hF
     exact ⟨_,rfl,_,rfl,⟨_,_,_,rfl,s3.trans s4,hF⟩⟩
    ·rw [hf] at hF
     exact ⟨_,rfl,_,rfl,⟨_,rfl,_,rfl,_,rfl,(by show 3≤sizeLine; decide),fun q hq=>kS _ q _ ((s3.trans s4).trans (same_new hq)) hF upd_same⟩⟩
   ·(intro σ H2 oi73; refine o3_3 oi73 fun x y z y24_3 s2 hF=>?_; try clear oi73; subst y24_3)
    rw [List.length_map,Paired.length ha2,List.drop_length] at hF
    exact kN H2 s2 hF
end
end Jd
namespace Jd
open PySem PySem.Spec PyProof.Rows L2 W1
open PySem.W (Codec)
def sgn:Mi.Sg→Str
 | none=>"row"
 | some k=>nm k
def unS (x:Str):Mi.Sg:=if x = "row" then none else some (un x)
theorem unS_sgn:∀ g:Mi.Sg,unS (sgn g) = g:=by
 intro g
 cases g with
 | none=>decide +kernel
 | some k=>cases k <;> decide +kernel
theorem sgn_inj {a b:Mi.Sg} (h:sgn a = sgn b):a = b:=by rw [← unS_sgn a,← unS_sgn b,h]
def keyOf (n:Mi.Nk):List Key:=.inr (sgn n.1) :: n.2.map .inl
theorem inl_inj:∀ {a b:List Int},a.map (Sum.inl:Int→Key) = b.map Sum.inl→a = b
 | [],[],_=>rfl
 | [],_ :: _,h=>by simp at h
 | _ :: _,[],h=>by simp at h
 | x :: a,y :: b,h=>by
  simp only [List.map_cons,List.cons.injEq] at h
  rw [Sum.inl.inj h.1,inl_inj h.2]
theorem keyOf_inj {a b:Mi.Nk} (h:keyOf a = keyOf b):a = b:=by
 unfold keyOf at h
 simp only [List.cons.injEq] at h
 exact Prod.ext (sgn_inj (Sum.inr.inj h.1)) (inl_inj h.2)
theorem keyOf_kV (n:Mi.Nk):(keyOf n).map kV = V.str (sgn n.1) :: n.2.map V.int:=by
 unfold keyOf
 rw [List.map_cons,List.map_map]
 rfl
def enumT:Nat→List Mi.Nk→List (List Key × V)
 | _,[]=>[]
 | i,n :: r=>(keyOf n,.int (i:Int)) :: enumT (i + 1) r
theorem enumT_len:∀ (i:Nat) (l:List Mi.Nk),(enumT i l).length = l.length
 | _,[]=>rfl
 | i,z :: r=>by simp only [enumT,List.length_cons,enumT_len]
theorem enumT_some:∀ (i:Nat) (l:List Mi.Nk) (z:Mi.Nk),z ∈ l→valV (enumT i l) (keyOf z) = some (.int ((i + l.idxOf z:Nat):Int))
 | _,[],z,h=>by simp at h
 | i,x :: r,z,h=>by
  simp only [enumT]
  by_cases e:x = z
  ·subst e
   rw [valV_pos rfl,List.idxOf_cons_self]
   rfl
  ·rw [valV_neg (fun q=>e (keyOf_inj q)),enumT_some (i + 1) r z ((List.mem_cons.mp h).resolve_left fun q=>e q.symm)]
   have hb:(x == z) = false:=by
    rw [Bool.eq_false_iff]
    exact fun q=>e (eq_of_beq q)
   have e2:(x :: r).idxOf z = r.idxOf z + 1:=by rw [List.idxOf_cons,hb]; rfl
   rw [e2]
   congr 2
   omega
theorem enumT_none:∀ (i:Nat) (l:List Mi.Nk) (z:Mi.Nk),z ∉ l→valV (enumT i l) (keyOf z) = none
 | _,[],z,_=>rfl
 | i,x :: r,z,h=>by
  simp only [List.mem_cons,not_or] at h
  simp only [enumT]
  rw [valV_neg (fun q=>h.1 (keyOf_inj q).symm),enumT_none (i + 1) r z h.2]
theorem enumT_snoc:∀ (i:Nat) (l:List Mi.Nk) (z:Mi.Nk),enumT i (l ++ [z]) = enumT i l ++ [(keyOf z,.int ((i + l.length:Nat):Int))]
 | i,[],z=>rfl
 | i,x :: r,z=>by
  simp only [List.cons_append,enumT,enumT_snoc (i + 1) r z,List.length_cons]
  congr 5
  omega
def pcV:Mi.Pc→V
 | .s k=>.str (nm k)
 | .n i=>.int (i:Int)
def spellK:Mi.Sg→Option (List V)
 | some .list=>some [.str "list",.str "(",.int 1,.str ")"]
 | some .pair=>some [.str "pair",.str "(",.int 1,.str ",",.int 2,.str ")"]
 | some .ob=>some [.str "[",.int 1,.str "--",.int 2,.str "]"]
 | none=>some [.int 1,.int 2]
 | _=>none
structure Txt3 (P:Program) (w:World) (K:PySem.W.Frag) (mg:Str→Option Value) (aLe aHE aIE aPa:Addr):Prop where
 g_LEAVES:mg "LEAVES" = some (.ref aLe)
 g_HOLDER_ENDS:mg "HOLDER_ENDS" = some (.ref aHE)
 g_ITEM_ENDS:mg "ITEM_ENDS" = some (.ref aIE)
 g_SPELLED:mg "SPELLED" = some (.ref aPa)
 leaves:∀ H,SqT K H aLe [.str "ROW",.str "ITEM",.str "num",.str "bool"]
 hends:∀ H,SqT K H aHE [.str ")",.str "]"]
 iends:∀ H,SqT K H aIE [.str "ITEM",.str "num",.str "bool",.str ")",.str "]"]
 spelled:∃ m:Str→Option Value,DicK P w K aPa m∧∀ g:Mi.Sg,match spellK g with
  | none=>m (sgn g) = none
  | some l=>∃ b,m (sgn g) = some (.ref b)∧∀ H,SqT K H b l
 b_tuple:mg "tuple" = none
 b_zip:mg "zip" = none
 b_range:mg "range" = none
theorem spell_part (g:Mi.Sg):(spellK g).isSome = Mi.partS g:=by
 cases g with
 | none=>rfl
 | some k=>cases k <;> rfl
def SameX (d:Addr) (H H':Hp):Prop:=∀ b u,b≠d→H b = some u→H' b = some u
theorem SameX.refl (d:Addr) (H:Hp):SameX d H H:=fun _ _ _ e=>e
theorem SameX.trans {d:Addr} {H H' H'':Hp} (a:SameX d H H') (b:SameX d H' H''):SameX d H H'':=fun c u n e=>b c u n (a c u n e)
theorem SameX.of {d:Addr} {H H':Hp} (a:Same H H'):SameX d H H':=fun c u _ e=>a c u e
theorem SameX.put {d a:Addr} {H H':Hp} {o:HO} (s:SameX d H H') (n:H a = none):SameX d H (upd H' a o):=fun b u nb e=>by
 rw [upd_ne (ne_of_none e n)]
 exact s b u nb e
theorem SameX.dict {d:Addr} {H H':Hp} {o:HO} (s:SameX d H H'):SameX d H (upd H' d o):=fun b u nb e=>by
 rw [upd_ne nb]
 exact s b u nb e
theorem SameX.free {d:Addr} {H H':Hp} (s:SameX d H H') {b:Addr} (n:b≠d) (e:H' b = none):H b = none:=by
 cases q:H b with
 | none=>rfl
 | some u=>rw [s b u n q] at e; cases e
def NumsAt (H:Hp) (d:Addr) (tb:List Mi.Nk):Prop:=H d = some (.dT (enumT 0 tb))
def bl (b:List Nat):List V:=b.reverse.map fun (i:Nat)=>V.int (i:Int)
def spJoined:Sp:=fun vs H Q _=>∃ (a d:Addr) (b:List Nat) (g:Mi.Sg) (tb:List Mi.Nk),vs = [.ref a,.str (sgn g),.ref d]∧H a = some (.lst (bl b))∧NumsAt H d tb∧Mi.partS g = true∧Mi.parts g≤b.length∧b.length≤100000∧tb.length≤100000 ∧
 ∀ (H':Hp) (p:Addr),SameX d H H'→H p = none→NumsAt H' d (Mi.joinB b g tb).2→H' p = some (.lst (bl (Mi.joinB b g tb).1))→Q (.ref p) H'
theorem bl_len (b:List Nat):(bl b).length = b.length:=by simp [bl]
theorem bl_drop (b:List Nat) (p:Nat) (h:p≤b.length):(bl b).drop (b.length - p) = ((b.take p).reverse.map fun (i:Nat)=>V.int (i:Int)):=by
 unfold bl
 rw [← List.map_drop]
 congr 1
 have e:b.reverse = (b.drop p).reverse ++ (b.take p).reverse:=by rw [← List.reverse_append,List.take_append_drop]
 rw [e,List.drop_append_of_le_length (by simp),List.drop_eq_nil_of_le (by simp),List.nil_append]
theorem bl_take (b:List Nat) (p:Nat) (h:p≤b.length):(bl b).take (b.length - p) = bl (b.drop p):=by
 unfold bl
 rw [← List.map_take]
 congr 1
 have e:b.reverse = (b.drop p).reverse ++ (b.take p).reverse:=by rw [← List.reverse_append,List.take_append_drop]
 rw [e,List.take_append_of_le_length (by simp),List.take_of_length_le (by simp)]
theorem bl_snoc (b:List Nat) (i:Nat):bl (i :: b) = bl b ++ [V.int (i:Int)]:=by simp [bl]
section
variable {P:Program} {w:World} {K:PySem.W.Frag} {mg:Str→Option Value} {base:Heap} {aB aF aE aS aV aLe aHE aIE aPa:Addr}
theorem setd {H:Hp} {d:Addr} {tb:List Mi.Nk} {n:Mi.Nk} {Q:VK} (hd:NumsAt H d tb) (k:∀ H':Hp,SameX d H H'→NumsAt H' d (Mi.numIn tb n).1→Q (.int (((Mi.numIn tb n).2:Nat):Int)) H') :
  (∀ y,valV (enumT 0 tb) (keyOf n) = some y→Q y H)∧(valV (enumT 0 tb) (keyOf n) = none→Q (.int ((enumT 0 tb).length:Int)) (upd H d (.dT (putK (enumT 0 tb) (keyOf n) (.int ((enumT 0 tb).length:Int)))))):=by
 constructor
 ·intro y hy
  by_cases hm:n ∈ tb
  ·rw [enumT_some 0 tb n hm] at hy
   have hy':=Option.some.inj hy
   subst hy'
   have k':=k H (SameX.refl d H)
   unfold Mi.numIn at k'
   rw [if_pos hm] at k'
   rw [Nat.zero_add]
   exact k' hd
  ·rw [enumT_none 0 tb n hm] at hy
   cases hy
 ·intro hn
  have hm:n ∉ tb:=fun q=>by rw [enumT_some 0 tb n q] at hn; cases hn
  have k':=k (upd H d (.dT (enumT 0 (tb ++ [n])))) (SameX.dict (SameX.refl d H))
  unfold Mi.numIn at k'
  rw [if_neg hm] at k'
  rw [putK_new _ hn,enumT_len]
  have e:=enumT_snoc 0 tb n
  rw [Nat.zero_add] at e
  rw [← e]
  exact k' upd_same
theorem numsz {tb:List Mi.Nk} (hl:tb.length≤100000):(enumT 0 tb).length < sizeLine:=by rw [enumT_len]; exact Nat.lt_of_le_of_lt hl (by decide)
theorem parts_two {g:Mi.Sg} (hg:Mi.partS g = true) (h:g≠some .list):Mi.parts g = 2:=by
 cases g with
 | none=>rfl
 | some k=>cases k <;> first
  | rfl
  | exact absurd rfl h
  | exact absurd hg (by decide)
theorem sgn_list (g:Mi.Sg):decide (V.str (sgn g) = V.str "list") = decide (g = some .list):=by
 cases g with
 | none=>decide +kernel
 | some k=>cases k <;> decide +kernel
abbrev s_joined:Stmt:=top 30
theorem sc_joined:FnScope ["built","sign","numbers","first","node"] ["built","sign","numbers"] (defScope s_joined):=⟨rfl,rfl,rfl,by decide +kernel,rfl,by decide +kernel,by decide +kernel⟩
theorem bi_joined:Bi "joined" s_joined ["built","sign","numbers"]:=fun _ _ _ _ _ _ us hl=>by (refine o3_1 (len3 hl) fun _ _ _ y1_3=>?_; subst y1_3); rfl
theorem ok_joined (F:FnAt K mg "joined" s_joined) (T:Txt P w K mg aB aF aE aS aV) (T3:Txt3 P w K mg aLe aHE aIE aPa):Own P w K mg base "joined" 2 ["built","sign","numbers"] spJoined:=by
 refine Own.of F sc_joined bi_joined (fun vs H Q E h=>?_) (fun f cdv A outer s H vs Q E hr h=>?_)
 ·(refine o5_2 h fun a d b g tb y2_5 _=>?_; try clear h; subst y2_5)
  rfl
 ·(refine o5_8 h fun a d b g tb y3_5 ha hd hg hp hbl htl k=>?_; try clear h; subst y3_5)
  refine ⟨_,(pss_cons (ps_set (i:=3) sc_joined.nd rfl (Or.inl rfl) (pe_op op_sub (pe_callB call_len_seq (by rfl) T.b_len bo_len (pa_cons (pv 0) pa_nil)) (pe_cut (pe_ifExp (pt_cmpR op_eq (pv 1) pe_str (nomark _)) pe_int pe_int))))
   (pss_cons (ps_set (i:=4) sc_joined.nd rfl (Or.inl rfl) (pe_callTy call_tuple_of (by rfl) T3.b_tuple bo_tuple (pa_cons (pe_op op_cat (pe_lst (pa_cons (pv 1) pa_nil)) (pe_slice sl_list (pv 0) (po_some (pv 3)) po_none)) pa_nil)))
   (pss_one (ps_ret (pe_op op_cat (pe_slice sl_list (pv 0) po_none (po_some (pv 3))) (pe_lst (pa_cons (pe_cut (pe_bm PySem.F.plainAttrs_dict PySem.F.slot_dict_setdefault PySem.F.type_dict_setdefault (mt_setdefT hr.units) (pv 2) (pa_cons (pv 4) (pa_cons (pe_callB call_lenT (by rfl) T.b_len bo_len (pa_cons (pv 2) pa_nil)) pa_nil)))) pa_nil))))))),?_⟩
  try dsimp only [cxOf,Cx.nox]
  have e0:((bl b).length:Int) - ((Mi.parts g:Nat):Int) = ((b.length - Mi.parts g:Nat):Int):=by rw [bl_len]; omega
  refine ⟨_,rfl,a,_,rfl,.inl (SqL.of ha),fun v H'=>v = .int ((Mi.parts g:Nat):Int)∧H = H',?_,?_⟩
  ·refine ⟨_,rfl,rfl,_,rfl,ite2 (fun h=>⟨?_,rfl⟩) (fun h=>⟨?_,rfl⟩)⟩
   ·rw [sgn_list] at h
    rw [of_decide_eq_true h]
    rfl
   ·rw [sgn_list] at h
    have h':g≠some .list:=fun q=>h (decide_eq_true q)
    rw [parts_two hg h']
    rfl
  (intro _ _ oi4; refine o0_2 oi4 fun y5_0 y5_1=>?_; try clear oi4; subst y5_0; subst y5_1)
  refine ⟨_,_,rfl,rfl,?_⟩
  refine ⟨_,rfl,(by show 1≤sizeLine; decide),fun q1 hq1=>?_⟩
  have nd1:d≠q1:=ne_of_none hd hq1
  generalize eH1:upd H q1 (.lst [V.str (sgn g)]) = H1
  have s1:Same H H1:=by rw [← eH1]; exact same_new hq1
  have hq1':H1 q1 = some (.lst [V.str (sgn g)]):=by rw [← eH1]; exact upd_same
  refine ⟨_,rfl,_,rfl,_,rfl,a,_,rfl,SqL.of (s1 _ _ ha),fun q2 hq2=>?_⟩
  have e1:cutV (bl b) (some (((bl b).length:Int) - ((Mi.parts g:Nat):Int))) none = (b.take (Mi.parts g)).reverse.map fun (i:Nat)=>V.int (i:Int):=by
   rw [e0,cut_from _ _ (by rw [bl_len]; omega),bl_drop b _ hp]
  rw [e1]
  generalize eH2:upd H1 q2 (.lst ((b.take (Mi.parts g)).reverse.map fun (i:Nat)=>V.int (i:Int))) = H2
  have s2:Same H1 H2:=by rw [← eH2]; exact same_new hq2
  have hq2':H2 q2 = some (.lst ((b.take (Mi.parts g)).reverse.map fun (i:Nat)=>V.int (i:Int))):=by rw [← eH2]; exact upd_same
  refine ⟨q1,q2,_,_,rfl,rfl,s2 _ _ hq1',hq2',?_,fun q3 hq3=>?_⟩
  ·simp only [List.length_map,List.length_reverse,List.length_take,List.length_cons,List.length_nil]
   have:min (Mi.parts g) b.length≤100000:=Nat.le_trans (Nat.min_le_right _ _) hbl
   exact Nat.le_trans (Nat.add_le_add_left this _) (by decide)
  generalize eH3:upd H2 q3 (.lst ([V.str (sgn g)] ++ (b.take (Mi.parts g)).reverse.map fun (i:Nat)=>V.int (i:Int))) = H3
  have s3:Same H2 H3:=by rw [← eH3]; exact same_new hq3
  have hq3':H3 q3 = some (.lst ([V.str (sgn g)] ++ (b.take (Mi.parts g)).reverse.map fun (i:Nat)=>V.int (i:Int))):=by rw [← eH3]; exact upd_same
  refine ⟨q3,_,rfl,.inl ⟨SqL.of hq3',fun q4 hq4=>?_⟩⟩
  have eK:[V.str (sgn g)] ++ ((b.take (Mi.parts g)).reverse.map fun (i:Nat)=>V.int (i:Int)) = (keyOf (Mi.nodeOf b g)).map kV:=by
   rw [keyOf_kV]
   unfold Mi.nodeOf
   rw [List.map_map]
   rfl
  rw [eK]
  generalize eH4:upd H3 q4 (.tup ((keyOf (Mi.nodeOf b g)).map kV)) = H4
  have s4:Same H3 H4:=by rw [← eH4]; exact same_new hq4
  have hq4':H4 q4 = some (.tup ((keyOf (Mi.nodeOf b g)).map kV)):=by rw [← eH4]; exact upd_same
  have s14:Same H H4:=((s1.trans s2).trans s3).trans s4
  refine ⟨_,rfl,_,rfl,_,rfl,a,_,rfl,SqL.of (s14 _ _ ha),fun q5 hq5=>?_⟩
  have e5:cutV (bl b) none (some (((bl b).length:Int) - ((Mi.parts g:Nat):Int))) = bl (b.drop (Mi.parts g)):=by rw [e0,cut_to,bl_take b _ hp]
  rw [e5]
  generalize eH5:upd H4 q5 (.lst (bl (b.drop (Mi.parts g)))) = H5
  have s5:Same H4 H5:=by rw [← eH5]; exact same_new hq5
  have hq5':H5 q5 = some (.lst (bl (b.drop (Mi.parts g)))):=by rw [← eH5]; exact upd_same
  have s15:=s14.trans s5
  have hd5:NumsAt H5 d tb:=s15 _ _ hd
  have nd5:q5≠d:=fun z=>by
   have:=s14 _ _ hd
   rw [z] at hq5
   rw [hq5] at this
   cases this
  refine ⟨fun v H6=>v = .int (((Mi.numIn tb (Mi.nodeOf b g)).2:Nat):Int)∧SameX d H5 H6∧NumsAt H6 d (Mi.numIn tb (Mi.nodeOf b g)).1,?_,?_⟩
  ·have sd:=setd (n:=Mi.nodeOf b g) (Q:=fun v H6=>v = .int (((Mi.numIn tb (Mi.nodeOf b g)).2:Nat):Int)∧SameX d H5 H6∧NumsAt H6 d (Mi.numIn tb (Mi.nodeOf b g)).1) hd5 fun H6 s6 hd6=>⟨rfl,s6,hd6⟩
   exact ⟨_,rfl,.inr (.inr (.inl ⟨rfl,.inr ⟨_,hd5⟩⟩)),_,rfl,_,rfl,d,_,rfl,hd5,d,q4,_,keyOf (Mi.nodeOf b g),_,rfl,rfl,hd5,s5 _ _ hq4',numsz htl,sd.1,sd.2⟩
  (intro _ H6 oi6; refine o0_3 oi6 fun y7_0 s6 hd6=>?_; try clear oi6; subst y7_0)
  refine ⟨(by show 1≤sizeLine; decide),fun q7 hq7=>?_⟩
  have hq56:H6 q5 = some (.lst (bl (b.drop (Mi.parts g)))):=s6 _ _ nd5 hq5'
  have nd7:q7≠d:=fun z=>by rw [z,hd6] at hq7; cases hq7
  have n57:q5≠q7:=ne_of_none hq56 hq7
  generalize eH7:upd H6 q7 (.lst [V.int (((Mi.numIn tb (Mi.nodeOf b g)).2:Nat):Int)]) = H7
  have s7:Same H6 H7:=by rw [← eH7]; exact same_new hq7
  have hq7':H7 q7 = some (.lst [V.int (((Mi.numIn tb (Mi.nodeOf b g)).2:Nat):Int)]):=by rw [← eH7]; exact upd_same
  refine ⟨q5,q7,_,_,rfl,rfl,s7 _ _ hq56,hq7',?_,fun q8 hq8=>?_⟩
  ·simp only [bl_len,List.length_drop,List.length_cons,List.length_nil]
   exact Nat.le_trans (show b.length - Mi.parts g + 1≤100001 by omega) (by decide)
  have s17:SameX d H H7:=((SameX.of s15).trans s6).trans (SameX.of s7)
  have hd7:NumsAt H7 d (Mi.numIn tb (Mi.nodeOf b g)).1:=s7 _ _ hd6
  have nd8:q8≠d:=fun z=>by rw [z,hd7] at hq8; cases hq8
  refine k _ q8 (SameX.put s17 (s17.free nd8 hq8)) (s17.free nd8 hq8) ?_ ?_
  ·show upd _ _ _ d = _
   rw [upd_ne (Ne.symm nd8)]
   exact hd7
  ·rw [upd_same]
   unfold Mi.joinB
   rw [bl_snoc]
end
end Jd
namespace Jd
open PySem PySem.Spec PyProof.Rows L2 W1
open PySem.W (Codec)
def hl (hs:List Mi.Sy):List V:=hs.reverse.map fun k=>V.str (nm k)
structure RS (H:Hp) (d ph:Addr) (st:Mi.S3) (pb:Addr) (H':Hp):Prop where
 same:SameX d H H'
 fb:H pb = none
 nbd:pb≠d
 nbp:pb≠ph
 built:H' pb = some (.lst (bl st.1))
 hold:H' ph = some (.lst (hl st.2.1))
 nums:NumsAt H' d st.2.2
theorem pop_last (xs:List V) (x:V):(xs ++ [x])[(xs ++ [x]).length - 1]? = some x:=by simp
def spRows:Sp:=fun vs H Q _=>∃ (l d:Addr) (ts:List Mi.Tk) (tb:List Mi.Nk),vs = [.ref l,.ref d]∧ToksAt H l ts∧NumsAt H d tb∧ts.length≤1024∧tb.length≤10000∧Mi.SafeH ts ([],[.ob],tb) ∧
 ∀ (H':Hp) (p:Addr),SameX d H H'→H p = none→NumsAt H' d (Mi.runH ts ([],[.ob],tb)).2.2→H' p = some (.lst (bl (Mi.runH ts ([],[.ob],tb)).1))→Q (.ref p) H'
theorem spelled_in {m:Str→Option Value} {K:PySem.W.Frag} {g:Mi.Sg} (h:match spellK g with
  | none=>m (sgn g) = none
  | some l=>∃ b,m (sgn g) = some (.ref b)∧∀ H,SqT K H b l):(m (sgn g)).isSome = Mi.partS g:=by
 rw [← spell_part]
 cases e:spellK g with
 | none =>
  rw [e] at h
  rw [show m (sgn g) = none from h]
  rfl
 | some l =>
  rw [e] at h
  (refine o1_2 h fun b hb _=>?_; try clear h)
  rw [hb]
  rfl
theorem opens_part (k:Mi.Sy):Mi.partS (some k) = Mi.opens k:=by cases k <;> rfl
theorem in_leaves (k:Mi.Sy):inV (.str (nm k)) [.str "ROW",.str "ITEM",.str "num",.str "bool"] = Mi.leafK k:=by cases k <;> decide +kernel
theorem in_hends (k:Mi.Sy):inV (.str (nm k)) [.str ")",.str "]"] = Mi.endsK k:=by cases k <;> decide +kernel
theorem in_iends (k:Mi.Sy):inV (.str (nm k)) [.str "ITEM",.str "num",.str "bool",.str ")",.str "]"] = Mi.itemEnd k:=by cases k <;> decide +kernel
theorem ToksAt.sameX {d l:Addr} {H H':Hp} {ts:List Mi.Tk} (h:ToksAt H l ts) (hd:∃ kvs,H d = some (.dT kvs)) (s:SameX d H H'):ToksAt H' l ts:=by
 (refine o1_2 h fun as h1 h2=>?_; try clear h)
 refine o1_1 hd fun kvs hd=>?_
 exact ⟨as,s _ _ (ne_of h1 hd (by intro z; cases z)) h1,Paired.mapP h2 fun a x e=>s _ _ (ne_of (show H a = some (.tup _) from e) hd (by intro z; cases z)) e⟩
section
variable {P:Program} {w:World} {K:PySem.W.Frag} {mg:Str→Option Value} {base:Heap} {aB aF aE aS aV aLe aHE aIE aPa:Addr}
abbrev s_rows_of:Stmt:=top 29
theorem sc_rows_of:FnScope ["tokens","numbers","built","holders","kind","number","place"] ["tokens","numbers"] (defScope s_rows_of):=⟨rfl,rfl,rfl,by decide +kernel,rfl,by decide +kernel,by decide +kernel⟩
theorem bi_rows_of:Bi "rows_of" s_rows_of ["tokens","numbers"]:=fun _ _ _ _ _ _ us hl=>by (refine o2_1 (len2 hl) fun _ _ y4_2=>?_; subst y4_2); rfl
theorem ok_rows_of (F:FnAt K mg "rows_of" s_rows_of) (T:Txt P w K mg aB aF aE aS aV) (T3:Txt3 P w K mg aLe aHE aIE aPa) (C_joined:Own P w K mg base "joined" 2 ["built","sign","numbers"] spJoined):Own P w K mg base "rows_of" 3 ["tokens","numbers"] spRows:=by
 refine Own.of F sc_rows_of bi_rows_of (fun vs H Q E h=>?_) (fun f cdv A outer s H vs Q E hr h=>?_)
 ·(refine o4_2 h fun l d ts tb y5_4 _=>?_; try clear h; subst y5_4)
  rfl
 ·(refine o4_7 h fun l d ts tb y6_4 hT hd hlen htl hsafe k=>?_; try clear h; subst y6_4)
  refine o1_2 T3.spelled fun m hm hpt=>?_
  refine ⟨_,(pss_cons (ps_set (i:=2) sc_rows_of.nd rfl (Or.inl rfl) (pe_lst pa_nil))
   (pss_cons (ps_set (i:=3) sc_rows_of.nd rfl (Or.inl rfl) (pe_lst (pa_cons pe_str pa_nil)))
   (pss_cons (ps_for PassesOwn.never rfl (pi_list (pv 0)) (pg_tup rfl (pgs_cons (pg_name (i:=4) sc_rows_of.nd rfl (Or.inl rfl)) (pgs_cons (pg_name (i:=5) sc_rows_of.nd rfl (Or.inl rfl)) (pgs_cons (pg_name (i:=6) sc_rows_of.nd rfl (Or.inl rfl)) pgs_nil))))
    (pss_cons (ps_cut (ps_if (pt_cmp (pc_kin (pv 4) (pe_gref (by rfl) T3.g_SPELLED)))
     (pss_one (ps_expr (pe_bm PySem.F.plainAttrs_list PySem.F.slot_list_append PySem.F.type_list_append mt_append (pv 3) (pa_cons (pv 4) pa_nil))))
     pss_nil))
    (pss_cons (ps_cut (ps_if (pt_cmpR op_in_seq (pv 4) (pe_gref (by rfl) T3.g_LEAVES) (by with_unfolding_all rfl))
     (pss_one (ps_expr (pe_bm PySem.F.plainAttrs_list PySem.F.slot_list_append PySem.F.type_list_append mt_append (pv 2) (pa_cons (pe_cut (pe_bm PySem.F.plainAttrs_dict PySem.F.slot_dict_setdefault PySem.F.type_dict_setdefault (mt_setdefT hr.units) (pv 1) (pa_cons (pe_tup (pa_cons (pv 4) (pa_cons (pv 5) pa_nil))) (pa_cons (pe_callB call_lenT (by rfl) T.b_len bo_len (pa_cons (pv 1) pa_nil)) pa_nil)))) pa_nil))))
     pss_nil))
    (pss_cons (ps_cut (ps_if (pt_cmpR op_in_seq (pv 4) (pe_gref (by rfl) T3.g_HOLDER_ENDS) (by with_unfolding_all rfl))
     (pss_one (ps_set (i:=2) sc_rows_of.nd rfl (Or.inl rfl) (pe_own C_joined (hr.mono (by decide)) (by rfl) (pa_cons (pv 2) (pa_cons (pe_bm0 PySem.F.plainAttrs_list PySem.F.slot_list_pop PySem.F.type_list_pop mt_pop (pv 3)) (pa_cons (pv 1) pa_nil))))))
     pss_nil))
    (pss_one (ps_if (pt_cut (pw_and (pt_cmpR op_in_seq (pv 4) (pe_gref (by rfl) T3.g_ITEM_ENDS) (by with_unfolding_all rfl)) (pw_and1 (pt_cmpR op_eq (pe_ix ix_list (pv 3) (pe_un un_neg pe_int) (fun _ _=>rfl)) pe_str (nomark _)))).pt)
     (pss_one (ps_set (i:=2) sc_rows_of.nd rfl (Or.inl rfl) (pe_own C_joined (hr.mono (by decide)) (by rfl) (pa_cons (pv 2) (pa_cons pe_str (pa_cons (pv 1) pa_nil))))))
     pss_nil))))))
   (pss_one (ps_ret (pv 2)))))),?_⟩
  try dsimp only [cxOf,Cx.nox]
  refine ⟨Nat.zero_le _,fun pb0 hpb0=>?_⟩
  refine ⟨(by show 1≤sizeLine; decide),fun ph hph0=>?_⟩
  have n0:pb0≠ph:=fun z=>by rw [z,upd_same] at hph0; cases hph0
  have hph:H ph = none:=by rw [upd_ne (Ne.symm n0)] at hph0; exact hph0
  have ndp:ph≠d:=fun z=>by rw [z,hd] at hph; cases hph
  (refine o1_2 hT fun as ha1 ha2=>?_; try clear hT)
  have hT':ToksAt H l ts:=⟨as,ha1,ha2⟩
  have rs0:RS H d ph ([],[.ob],tb) pb0 (upd (upd H pb0 (.lst [])) ph (.lst [V.str "["])):=⟨SameX.of ((same_new hpb0).trans (same_new hph0)),hpb0,(fun z=>by rw [z,hd] at hpb0; cases hpb0),n0,(by rw [upd_ne n0,upd_same]; rfl),upd_same,(same_new hph0) _ _ ((same_new hpb0) _ _ hd)⟩
  have lof:∀ H',SameX d H H'→∃ as',H' l = some (.lst (as'.map V.ref))∧Paired (TkAt H') as' ts:=fun H' s'=>hT'.sameX ⟨_,hd⟩ s'
  have lst:∀ H',SameX d H H'→H' l = some (.lst (as.map V.ref)):=fun H' s'=>s' _ _ (ne_of ha1 (show H d = some (.dT _) from hd) (by intro z; cases z)) ha1
  refine ⟨_,rfl,l,rfl,⟨_,SqL.of (lst _ rs0.same)⟩,for_list (K:=K) (a:=l) (xs:=as.map V.ref) (fun i σ H'=>∃ (pb:Addr) (x y z:Option V) (st:Mi.S3),σ = [some (.ref l),some (.ref d),some (.ref pb),some (.ref ph),x,y,z]∧RS H d ph st pb H'∧st.1.length≤3 * i∧st.2.1.length≤i + 1∧st.2.2.length≤tb.length + 3 * i∧Mi.SafeH (ts.drop i) st∧Mi.runH ts ([],[.ob],tb) = Mi.runH (ts.drop i) st)
   ⟨pb0,none,none,none,([],[.ob],tb),rfl,rs0,Nat.le_refl _,Nat.le_refl _,Nat.le_refl _,hsafe,rfl⟩ (fun i σ H' _ ⟨_,_,_,_,_,_,r,_⟩=>SqL.of (lst _ r.same)) ?_ ?_⟩
  ·(intro i y σ H1 hi oi9; refine o5_7 oi9 fun pb x' y' z' st y10_5 rs l1 l2 l3 hsf hrun=>?_; try clear oi9; subst y10_5)
   (refine o1_2 (map_at hi) fun c hc y11_2=>?_; subst y11_2)
   refine o1_2 (paired_get ha2 hc) fun tk htk hat=>?_
   have hi2:i < ts.length:=(List.getElem?_eq_some_iff.mp htk).1
   rw [Mi.drop_at htk] at hsf hrun
   simp only [Mi.SafeH,Mi.runH] at hsf hrun
   obtain ⟨kd,num,pl⟩:=tk
   (refine o0_2 hsf fun y14_0 hsf=>?_; refine o0_2 y14_0 fun sf3 sf4=>?_; try clear y14_0)
   have slen:=Mi.st_len kd num st
   have hat1:H1 c = some (.tup [.str (nm kd),.int num,.int (pl:Int)]):=rs.same _ _ (ne_of (show H c = some (.tup _) from hat) (show H d = some (.dT _) from hd) (by intro z; cases z)) hat
   refine ⟨c,_,rfl,SqT.of hat1,rfl,_,_,rfl,_,_,rfl,_,_,rfl,rfl,?_⟩
   refine ⟨fun σ' H'=>∃ pb:Addr,σ' = [some (.ref l),some (.ref d),some (.ref pb),some (.ref ph),some (.str (nm kd)),some (.int num),some (.int (pl:Int))]∧RS H d ph (Mi.st1 kd st) pb H'∧(Mi.st1 kd st).1.length≤3 * i∧(Mi.st1 kd st).2.2.length≤tb.length + 3 * i,?_,?_⟩
   ·have hg:(m (nm kd)).isSome = Mi.opens kd:=by rw [← opens_part]; exact spelled_in (g:=some kd) (hpt (some kd))
    refine ⟨_,rfl,aPa,nm kd,m,rfl,rfl,hm,_,rfl,ite2 (fun h=>?_) (fun h=>?_)⟩
    ·have ho:Mi.opens kd = true:=by rw [← hg]; exact h
     refine ⟨_,rfl,.inl ⟨rfl,_,SqL.of rs.hold⟩,_,rfl,ph,_,_,rfl,rfl,rs.hold,?_,pb,rfl,?_,?_,?_⟩
     ·unfold hl
      rw [List.length_map,List.length_reverse]
      exact Nat.lt_of_le_of_lt (show st.2.1.length≤2000 by omega) (by decide)
     ·have e1:Mi.st1 kd st = (st.1,kd :: st.2.1,st.2.2):=by unfold Mi.st1; rw [if_pos ho]
      rw [e1]
      refine ⟨SameX.put rs.same hph,rs.fb,rs.nbd,rs.nbp,by rw [upd_ne rs.nbp]; exact rs.built,?_,?_⟩
      ·rw [upd_same]
       simp [hl]
      ·show upd _ _ _ d = _
       rw [upd_ne (Ne.symm ndp)]
       exact rs.nums
     ·unfold Mi.st1; rw [if_pos ho]; exact l1
     ·unfold Mi.st1; rw [if_pos ho]; exact l3
    ·have ho:¬ Mi.opens kd = true:=fun e=>by rw [← hg] at e; exact h e
     have e1:Mi.st1 kd st = st:=by unfold Mi.st1; rw [if_neg ho]
     rw [e1]
     exact ⟨pb,rfl,rs,l1,l3⟩
   (intro _ H2 oi16; refine o1_4 oi16 fun pb2 y17_1 rs2 m1 m3=>?_; try clear oi16; subst y17_1)
   refine ⟨fun σ' H'=>∃ pb:Addr,σ' = [some (.ref l),some (.ref d),some (.ref pb),some (.ref ph),some (.str (nm kd)),some (.int num),some (.int (pl:Int))]∧RS H d ph (Mi.st2 kd num (Mi.st1 kd st)) pb H'∧(Mi.st2 kd num (Mi.st1 kd st)).1.length≤3 * i + 1∧(Mi.st2 kd num (Mi.st1 kd st)).2.2.length≤tb.length + 3 * i + 1,?_,?_⟩
   ·generalize Mi.st1 kd st = s1 at rs2 m1 m3
    refine ⟨_,rfl,aLe,_,rfl,.inr (T3.leaves H2),rfl,rfl,_,rfl,ite2 (fun h=>?_) (fun h=>?_)⟩
    ·have ho:Mi.leafK kd = true:=by
      rw [if_neg (by decide),in_leaves] at h
      exact h
     have e2:Mi.st2 kd num s1 = ((Mi.numIn s1.2.2 (some kd,[num])).2 :: s1.1,s1.2.1,(Mi.numIn s1.2.2 (some kd,[num])).1):=by unfold Mi.st2; rw [if_pos ho]
     refine ⟨_,rfl,.inl ⟨rfl,_,SqL.of rs2.built⟩,fun v H3=>∃ q,H2 q = none∧v = .int (((Mi.numIn s1.2.2 (some kd,[num])).2:Nat):Int)∧SameX d (upd H2 q (.tup ((keyOf (some kd,[num])).map kV))) H3∧NumsAt H3 d (Mi.numIn s1.2.2 (some kd,[num])).1,?_,?_⟩
     ·refine ⟨_,rfl,.inr (.inr (.inl ⟨rfl,.inr ⟨_,rs2.nums⟩⟩)),_,rfl,_,rfl,(by show 2≤sizeLine; decide),fun q hq=>?_⟩
      have hdq:NumsAt (upd H2 q (.tup ((keyOf (some kd,[num])).map kV))) d s1.2.2:=(same_new hq) _ _ rs2.nums
      have sd:=setd (n:=(some kd,[num])) (Q:=fun v H3=>∃ q,H2 q = none∧v = .int (((Mi.numIn s1.2.2 (some kd,[num])).2:Nat):Int)∧SameX d (upd H2 q (.tup ((keyOf (some kd,[num])).map kV))) H3∧NumsAt H3 d (Mi.numIn s1.2.2 (some kd,[num])).1) hdq fun H6 s6 hd6=>⟨q,hq,rfl,s6,hd6⟩
      exact ⟨_,rfl,d,_,rfl,hdq,d,q,_,keyOf (some kd,[num]),_,rfl,rfl,hdq,upd_same,numsz (by omega),sd.1,sd.2⟩
     (intro _ H3 oi18; refine o1_4 oi18 fun q hq y19_2 s3 hd3=>?_; try clear oi18; subst y19_2)
     have hb3:H3 pb2 = some (.lst (bl s1.1)):=s3 _ _ rs2.nbd ((same_new hq) _ _ rs2.built)
     refine ⟨pb2,_,_,rfl,rfl,hb3,?_,pb2,rfl,?_,?_,?_⟩
     ·rw [bl_len]
      exact Nat.lt_of_le_of_lt (show s1.1.length≤4000 by omega) (by decide)
     ·rw [e2]
      refine ⟨SameX.put (rs2.same.trans ((SameX.of (same_new hq)).trans s3)) rs2.fb,rs2.fb,rs2.nbd,rs2.nbp,by rw [upd_same,bl_snoc],?_,?_⟩
      ·rw [upd_ne (Ne.symm rs2.nbp)]
       exact s3 _ _ ndp ((same_new hq) _ _ rs2.hold)
      ·show upd _ _ _ d = _
       rw [upd_ne (Ne.symm rs2.nbd)]
       exact hd3
     ·rw [e2]
      simp only [List.length_cons]
      omega
     ·rw [e2]
      have:=Mi.numIn_len s1.2.2 (some kd,[num])
      simp only []
      omega
    ·have ho:¬ Mi.leafK kd = true:=fun e=>by
      rw [if_neg (by decide),in_leaves] at h
      exact h e
     have e2:Mi.st2 kd num s1 = s1:=by unfold Mi.st2; rw [if_neg ho]
     rw [e2]
     exact ⟨pb2,rfl,rs2,by omega,by omega⟩
   (intro _ H3 oi20; refine o1_4 oi20 fun pb3 y21_1 rs3 p1 p3=>?_; try clear oi20; subst y21_1)
   have hsl:(Mi.st2 kd num (Mi.st1 kd st)).2.1.length≤2000:=by
    have:(Mi.st2 kd num (Mi.st1 kd st)).2.1 = (Mi.st1 kd st).2.1:=by
     unfold Mi.st2
     split <;> rfl
    rw [this]
    unfold Mi.st1
    split
    ·simp only [List.length_cons]; omega
    ·omega
   generalize hs2:Mi.st2 kd num (Mi.st1 kd st) = s2 at rs3 p1 p3 sf3 sf4 hsl
   refine ⟨fun σ' H'=>∃ pb:Addr,σ' = [some (.ref l),some (.ref d),some (.ref pb),some (.ref ph),some (.str (nm kd)),some (.int num),some (.int (pl:Int))]∧RS H d ph (Mi.st3 kd s2) pb H'∧(Mi.st3 kd s2).1.length≤3 * i + 2∧(Mi.st3 kd s2).2.2.length≤tb.length + 3 * i + 2,?_,?_⟩
   ·refine ⟨_,rfl,aHE,_,rfl,.inr (T3.hends H3),rfl,rfl,_,rfl,ite2 (fun h=>?_) (fun h=>?_)⟩
    ·have ho:Mi.endsK kd = true:=by
      rw [if_neg (by decide),in_hends] at h
      exact h
     refine o2_3 (sf3 ho) fun h0 r0 e0 hp0 hq0=>?_
     have eh:hl s2.2.1 = hl r0 ++ [V.str (nm h0)]:=by rw [e0]; simp [hl]
     have e3:Mi.st3 kd s2 = ((Mi.joinB s2.1 (some h0) s2.2.2).1,r0,(Mi.joinB s2.1 (some h0) s2.2.2).2):=by
      unfold Mi.st3
      rw [if_pos ho,e0]
      rfl
     have hold3:=rs3.hold
     rw [eh] at hold3
     refine ⟨_,rfl,_,rfl,.inl ⟨rfl,_,SqL.of hold3⟩,ph,_,_,rfl,rfl,hold3,pop_last _ _,?_⟩
     have jl:=Mi.joinB_len s2.1 (some h0) s2.2.2
     refine ⟨_,rfl,pb3,d,s2.1,some h0,s2.2.2,rfl,by rw [upd_ne rs3.nbp]; exact rs3.built,?_,hp0,hq0,by omega,by omega,fun H4 p s4 hp hd4 hp4=>?_⟩
     ·show upd _ _ _ d = _
      rw [upd_ne (Ne.symm ndp)]
      exact rs3.nums
     ·have npp:p≠ph:=fun z=>by rw [z,upd_same] at hp; cases hp
      have hp3:H3 p = none:=by rw [upd_ne npp] at hp; exact hp
      have npd:p≠d:=fun z=>by rw [z] at hp3; rw [rs3.nums] at hp3; cases hp3
      have hp0':H p = none:=rs3.same.free npd hp3
      rw [e3]
      refine ⟨p,rfl,⟨(SameX.put rs3.same hph).trans s4,hp0',npd,npp,hp4,?_,hd4⟩,by simp only []; omega,by simp only []; omega⟩
      have:=s4 ph _ ndp upd_same
      rw [List.dropLast_concat] at this
      exact this
    ·have ho:¬ Mi.endsK kd = true:=fun e=>by
      rw [if_neg (by decide),in_hends] at h
      exact h e
     have e3:Mi.st3 kd s2 = s2:=by unfold Mi.st3; rw [if_neg ho]
     rw [e3]
     exact ⟨pb3,rfl,rs3,by omega,by omega⟩
   (intro _ H4 oi23; refine o1_4 oi23 fun pb4 y24_1 rs4 q1 q3=>?_; try clear oi23; subst y24_1)
   have est:Mi.stepH kd num st = Mi.st4 kd (Mi.st3 kd s2):=by unfold Mi.stepH; rw [hs2]
   rw [est] at hsf hrun slen
   generalize Mi.st3 kd s2 = s3 at rs4 q1 q3 sf4 hsf hrun slen
   refine ⟨fun b H'=>H4 = H'∧b = (Mi.itemEnd kd && decide (s3.2.1.head? = some .ob)),?_,?_⟩
   ·refine ⟨_,rfl,aIE,_,rfl,.inr (T3.iends H4),rfl,rfl,_,rfl,ite2 (fun h=>?_) (fun h=>⟨rfl,?_⟩)⟩
    ·have ho:Mi.itemEnd kd = true:=by
      rw [if_neg (by decide),in_iends] at h
      exact h
     refine o2_2 (sf4 ho) fun h0 r0 e0 hq0=>?_
     have eh:hl s3.2.1 = hl r0 ++ [V.str (nm h0)]:=by rw [e0]; simp [hl]
     have hold4:=rs4.hold
     rw [eh] at hold4
     refine ⟨_,rfl,_,rfl,ph,_,_,_,rfl,rfl,SqL.of hold4,atI_last _ _,rfl,_,rfl,rfl,?_⟩
     rw [ho,Bool.true_and,e0,List.head?_cons]
     have ev:decide (V.str (nm h0) = V.str "[") = decide (h0 = .ob):=decide_eq_decide.mpr (v_nm (b:=.ob))
     rw [ev]
     exact decide_eq_decide.mpr ⟨fun q=>by rw [q],fun q=>Option.some.inj q⟩
    ·have ho:Mi.itemEnd kd = false:=by
      rw [if_neg (by decide),in_iends] at h
      simpa using h
     rw [ho,Bool.false_and]
   (intro _ _ oi26; refine o0_2 oi26 fun y27_0 y27_1=>?_; try clear oi26; subst y27_0; subst y27_1)
   refine ite2 (fun h=>?_) (fun h=>?_)
   ·rw [Bool.and_eq_true] at h
    have hob:s3.2.1.head? = some .ob:=of_decide_eq_true h.2
    refine o2_2 (sf4 h.1) fun h0 r0 e0 hq0=>?_
    have eob:h0 = .ob:=by rw [e0,List.head?_cons] at hob; exact Option.some.inj hob
    have e4:Mi.st4 kd s3 = ((Mi.joinB s3.1 none s3.2.2).1,s3.2.1,(Mi.joinB s3.1 none s3.2.2).2):=by
     unfold Mi.st4
     rw [if_pos ⟨h.1,hob⟩]
    have jl:=Mi.joinB_len s3.1 none s3.2.2
    refine ⟨_,rfl,_,rfl,pb4,d,s3.1,none,s3.2.2,rfl,rs4.built,rs4.nums,rfl,hq0 eob,by omega,by omega,fun H5 p s5 hp hd5 hp5=>?_⟩
    have npp:p≠ph:=fun z=>by rw [z] at hp; rw [rs4.hold] at hp; cases hp
    have npd:p≠d:=fun z=>by rw [z] at hp; rw [rs4.nums] at hp; cases hp
    have hp0':H p = none:=rs4.same.free npd hp
    rw [e4] at hsf hrun slen
    refine ⟨p,_,_,_,((Mi.joinB s3.1 none s3.2.2).1,s3.2.1,(Mi.joinB s3.1 none s3.2.2).2),rfl,⟨rs4.same.trans s5,hp0',npd,npp,hp5,s5 _ _ ndp rs4.hold,hd5⟩,?_,?_,?_,hsf,hrun⟩
    ·simp only [] at *; omega
    ·simp only [] at *; omega
    ·simp only [] at *; omega
   ·have e4:Mi.st4 kd s3 = s3:=by
     unfold Mi.st4
     rw [if_neg]
     (intro oi29; refine o0_2 oi29 fun g1 g2=>?_; try clear oi29)
     exact h (by rw [g1,decide_eq_true g2]; rfl)
    rw [e4] at hsf hrun slen
    exact ⟨pb4,_,_,_,s3,rfl,rs4,by omega,by omega,by omega,hsf,hrun⟩
  ·(intro σ H1 oi31; refine o5_7 oi31 fun pb x y z st y32_5 rs l1 l2 l3 hsf hrun=>?_; try clear oi31; subst y32_5)
   rw [List.length_map,Paired.length ha2,List.drop_length] at hrun
   simp only [Mi.runH] at hrun
   refine ⟨_,rfl,k H1 pb rs.same rs.fb ?_ ?_⟩
   ·rw [hrun]; exact rs.nums
   ·rw [hrun]; exact rs.built
end
end Jd
namespace Jd
open PySem PySem.Spec PyProof.Rows L2 W1
open PySem.W (Codec)
theorem paired_cons {α β:Type} {G:α→β→Prop} {as:List α} {p:β} {l:List β} (h:Paired G as (p :: l)):∃ a as',as = a :: as'∧G a p∧Paired G as' l:=by
 cases h with
 | cons r t=>exact ⟨_,_,rfl,r,t⟩
theorem paired_get2 {α β:Type} {G:α→β→Prop} {l₁:List α} {l₂:List β} (h:Paired G l₁ l₂):∀ {i:Nat} {b:β},l₂[i]? = some b→∃ a,l₁[i]? = some a∧G a b:=by
 induction h with
 | nil=>intro i a e; simp at e
 | @cons a b l₁ l₂ r t ih =>
  intro i b' e
  cases i with
  | zero =>
   simp only [List.getElem?_cons_zero,Option.some.injEq] at e
   subst e
   exact ⟨a,rfl,r⟩
  | succ j =>
   simp only [List.getElem?_cons_succ] at e ⊢
   exact ih e
abbrev NdAt (H:Hp) (a:Addr) (n:Mi.Nk):Prop:=H a = some (.tup ((keyOf n).map kV))
def dP (p:Nat × Nat):PyData:=.tuple [.int (p.1:Int),.int (p.2:Int)]
abbrev PrAt (H:Hp) (a:Addr) (p:Nat × Nat):Prop:=H a = some (.tup [V.int (p.1:Int),V.int (p.2:Int)])
theorem dP_lay:∀ l:List (Nat × Nat),PyData.canLayAll0 (l.map dP) = true
 | []=>rfl
 | p :: l=>by rw [List.map_cons,PyData.canLayAll0,dP_lay l]; rfl
theorem dP_dep:∀ l:List (Nat × Nat),PyData.depthAll (l.map dP)≤1
 | []=>Nat.zero_le _
 | p :: l=>by
  have:=dP_dep l
  rw [List.map_cons,PyData.depthAll]
  refine Nat.max_le.mpr ⟨?_,this⟩
  show (PyData.tuple [.int _,.int _]).depth≤1
  rw [PyData.depth,PyData.depthAll,PyData.depthAll,PyData.depthAll,PyData.depth,PyData.depth]
  decide
theorem dP_shp (l:List (Nat × Nat)):SeqAt.shaped (.list (l.map dP)) = true:=by
 unfold SeqAt.shaped
 rw [PyData.canLay0,dP_lay,PyData.depth,Bool.true_and]
 have:=dP_dep l
 exact decide_eq_true (by omega)
theorem dP_dp {K:PySem.W.Frag} {H:Hp} {as:List Addr} {l:List (Nat × Nat)} (h:Paired (PrAt H) as l):DpAll K H (as.map V.ref) (l.map dP):=by
 induction h with
 | nil=>exact .nil
 | @cons a p as l r t ih=>exact .cons (.tup (SqT.of r) (.cons (.int _) (.cons (.int _) .nil))) ih
theorem dP_nil (l:List (Nat × Nat)):PyData.eqv (.list (l.map dP)) (.list []) = l.isEmpty:=by
 cases l <;> rfl
theorem paired_rev {α β:Type} {G:α→β→Prop} {l₁:List α} {l₂:List β} (h:Paired G l₁ l₂):Paired G l₁.reverse l₂.reverse:=by
 induction h with
 | nil=>exact .nil
 | @cons a b l₁ l₂ r t ih =>
  rw [List.reverse_cons,List.reverse_cons]
  exact Paired.snoc ih r
theorem paired_app {α β:Type} {G:α→β→Prop} {l₁ m₁:List α} {l₂ m₂:List β} (h:Paired G l₁ l₂) (g:Paired G m₁ m₂):Paired G (l₁ ++ m₁) (l₂ ++ m₂):=by
 induction h with
 | nil=>exact g
 | @cons a b l₁ l₂ r t ih=>exact .cons r ih
theorem pr_of {H:Hp}:∀ {ts:List Addr} {new:List (Nat × Nat)},Paired (fun t (p:V × V)=>H t = some (.tup [p.1,p.2])) ts (new.map fun p=>(V.int (p.1:Int),V.int (p.2:Int)))→Paired (PrAt H) ts new
 | _,[],h=>by cases h; exact .nil
 | _,x :: new,h=>by
  cases h with
  | cons r t=>exact .cons r (pr_of t)
theorem in_varS (g:Mi.Sg):inV (.str (sgn g)) [.str "ROW",.str "ITEM"] = Mi.varS g:=by
 cases g with
 | none=>decide +kernel
 | some k=>cases k <;> decide +kernel
theorem sqx_t {K:PySem.W.Frag} {H:Hp} {a:Addr} {xs:List V} (h:SqT K H a xs):SqX true K H a xs:=h
def NodesAt (H:Hp) (a:Addr) (tb:List Mi.Nk):Prop:=∃ as:List Addr,H a = some (.lst (as.map V.ref))∧Paired (NdAt H) as tb
theorem cut1 (n:Mi.Nk):cutV ((keyOf n).map kV) (some 1) none = n.2.map V.int:=by
 rw [keyOf_kV]
 exact cut_from (V.str (sgn n.1) :: n.2.map V.int) 1 (by simp)
theorem notwhole (n:Mi.Nk):¬ (HT.sIx ((keyOf n).map kV).length 0 (some 1) = 0∧HT.sIx ((keyOf n).map kV).length ((keyOf n).map kV).length none = ((keyOf n).map kV).length):=by
 (intro oi1; refine o0_2 oi1 fun h _=>?_; try clear oi1)
 have e:=HT.sIx_nat ((keyOf n).map kV).length 0 1
 rw [show ((1:Nat):Int) = 1 from rfl] at e
 rw [e,keyOf_kV] at h
 simp at h
theorem at_zero (n:Mi.Nk):atI ((keyOf n).map kV) 0 = some (V.str (sgn n.1)):=by
 rw [keyOf_kV]
 exact at_of (j:=0) rfl rfl
def keptT (x:Mi.Tk):Mi.Tk:=(x.1,if x.1 = .row∨x.1 = .ty then -1 - x.2.1 else x.2.1,x.2.2)
theorem kept_map {ts:List Mi.Tk} (h:∀ x ∈ ts,0≤x.2.1):ts.map keptT = ts.map (Mi.recode Mi.cU):=by
 refine List.map_congr_left fun x hx=>?_
 have:=h x hx
 unfold keptT Mi.recode Mi.cU
 rw [Int.toNat_of_nonneg this]
theorem same_map {ts:List Mi.Tk} (h:∀ x ∈ ts,0≤x.2.1):ts.map (Mi.recode Mi.cT) = ts:=by
 have:∀ x ∈ ts,Mi.recode Mi.cT x = x:=fun x hx=>by
  have:=h x hx
  unfold Mi.recode Mi.cT
  rw [Int.toNat_of_nonneg this]
  obtain ⟨k,z,p⟩:=x
  simp only [ite_self]
 rw [List.map_congr_left this]
 simp
def spKept:Sp:=fun vs H Q _=>∃ (l:Addr) (ts:List Mi.Tk),vs = [.ref l]∧ToksAt H l ts∧ts.length≤2000∧∀ (H':Hp) (p:Addr),Same H H'→H p = none→ToksAt H' p (ts.map keptT)→Q (.ref p) H'
def StR (s:Rs.Store) (kvs:List (Key × V)):Prop:=∀ i:Nat,valV kvs (.inl (i:Int)) = if s.put.getD i i = i then none else some (.int ((s.put.getD i i:Nat):Int))
def spStand:Sp:=fun vs H Q _=>∃ (d:Addr) (i r k:Nat) (s:Rs.Store) (kvs:List (Key × V)),vs = [.ref d,.int (i:Int)]∧H d = some (.dK kvs)∧StR s kvs∧Mi.Lead s.put i r k∧Q (.int (r:Int)) H
def spGives:Sp:=fun vs H Q _=>∃ (na:Addr) (i fx:Nat) (tb:List Mi.Nk) (n:Mi.Nk),vs = [.ref na,.int (i:Int),.int (fx:Int)]∧NodesAt H na tb∧tb[i]? = some n∧Q (.bl (decide (i < fx) && Mi.varS n.1)) H
theorem key_nat {a i:Nat} (h:(Sum.inl (a:Int):Key) = Sum.inl (i:Int)):a = i:=by
 have:=Sum.inl.inj h
 omega
theorem StR.bind {s:Rs.Store} {kvs:List (Key × V)} (h:StR s kvs) {i j:Nat} (hi:i < s.put.size) (ij:i≠j):StR (s.bind i j) (putK kvs (.inl (i:Int)) (.int (j:Int))):=fun a=>by
 rw [valV_put,Mi.bind_put hi]
 by_cases e:a = i
 ·subst e
  rw [if_pos rfl,if_pos rfl,if_neg (fun q=>ij q.symm)]
 ·rw [if_neg (fun q=>e (key_nat q)),if_neg e]
  exact h a
theorem and_b {Q:VK} {H:Hp} {a b c:Bool} {B:Prop} (hc:c = (a && b)) (k:Q (.bl c) H) (hB:Q (.bl b) H→B):if a = true then B else Q (.bl false) H:=by
 subst hc
 refine ite2 (fun h=>?_) (fun h=>?_)
 ·rw [h,Bool.true_and] at k
  exact hB k
 ·have e:a = false:=by simpa using h
  rw [e,Bool.false_and] at k
  exact k
theorem nodes_at {H:Hp} {na:Addr} {tb:List Mi.Nk} (h:NodesAt H na tb) {i:Nat} {n:Mi.Nk} (hn:tb[i]? = some n):∃ (as:List Addr) (a:Addr),H na = some (.lst (as.map V.ref))∧atI (as.map V.ref) (i:Int) = some (V.ref a)∧NdAt H a n:=by
 (refine o1_2 h fun as h1 h2=>?_; try clear h)
 refine o1_2 (paired_get2 h2 hn) fun a ha hat=>?_
 exact ⟨as,a,h1,atI_nat (by rw [List.getElem?_map,ha]; rfl),hat⟩
theorem NodesAt.same {H H':Hp} {na:Addr} {tb:List Mi.Nk} (h:NodesAt H na tb) (s:Same H H'):NodesAt H' na tb:=let ⟨as,h1,h2⟩:=h; ⟨as,s _ _ h1,Paired.mapP h2 fun a n e=>s _ _ e⟩
section
variable {P:Program} {w:World} {K:PySem.W.Frag} {mg:Str→Option Value} {base:Heap} {aB aF aE aS aV aLe aHE aIE aPa:Addr}
abbrev s_kept_apart:Stmt:=top 31
theorem sc_kept_apart:FnScope ["tokens","kind","number","place"] ["tokens"] (defScope s_kept_apart):=⟨rfl,rfl,rfl,by decide +kernel,rfl,by decide +kernel,by decide +kernel⟩
theorem bi_kept_apart:Bi "kept_apart" s_kept_apart ["tokens"]:=fun _ _ _ _ _ _ us hl=>by (refine o1_1 (len1 hl) fun _ y6_1=>?_; subst y6_1); rfl
theorem ok_kept_apart (F:FnAt K mg "kept_apart" s_kept_apart) (T:Txt P w K mg aB aF aE aS aV):Own P w K mg base "kept_apart" 1 ["tokens"] spKept:=by
 refine Own.of F sc_kept_apart bi_kept_apart (fun vs H Q E h=>?_) (fun f cdv A outer s H vs Q E hr h=>?_)
 ·(refine o2_2 h fun l ts y7_2 _=>?_; try clear h; subst y7_2)
  rfl
 ·(refine o2_4 h fun l ts y8_2 y8_3 hlen k=>?_; try clear h; subst y8_2; refine o1_2 y8_3 fun as ha1 ha2=>?_; try clear y8_3)
  refine ⟨_,(pss_one (ps_ret (pe_lc (own:=[("kind",1),("number",2),("place",3)]) rfl sc_kept_apart.nd (pi_list (pv 0)) (blkOk_by (by show blkC ["tokens","kind","number","place"] (defScope s_kept_apart) _ _ = true; decide +kernel)) (fun _ _ _ _ _=>(pg_tupK (K:=K) (n:=3) rfl rfl (pgs_cons (pg_name (i:=1) sc_kept_apart.nd rfl (Or.inl rfl)) (pgs_cons (pg_name (i:=2) sc_kept_apart.nd rfl (Or.inl rfl)) (pgs_cons (pg_name (i:=3) sc_kept_apart.nd rfl (Or.inl rfl)) pgs_nil))))) (fun _ _ _ _ _=>pts_nil) (fun _ _ _ _ _=>(pe_tup (pa_cons (pv 1) (pa_cons (pe_cut (pe_ifExp (pt_cmpR (op_in_seqK (K:=K) rfl) (pv 1) (pe_gref (by rfl) T.g_VARIABLES) (by with_unfolding_all rfl)) (pe_op op_sub (pe_un un_neg pe_int) (pv 2)) (pv 2))) (pa_cons (pv 3) pa_nil)))))))),?_⟩
  try dsimp only [cxOf,Cx.nox]
  refine ⟨_,rfl,l,rfl,⟨_,SqL.of ha1⟩,fun D hD=>lc_list (K:=K) (a:=l) (xs:=as.map V.ref) (fun i H'=>Same H H'∧∃ bs:List Addr,H' D = some (.lst (bs.map V.ref))∧bs.length = i∧Paired (TkAt H') bs ((ts.take i).map keptT)) ⟨same_new hD,[],upd_same,rfl,.nil⟩ (fun i H' _ q=>SqL.of (q.1 _ _ ha1)) ?_ ?_⟩
  ·rintro i y H1 hi ⟨s1,bs,hD1,hbl,hbp⟩
   (refine o1_2 (map_at hi) fun c hc y12_2=>?_; subst y12_2)
   refine o1_2 (paired_get ha2 hc) fun tk htk hat=>?_
   have hi2:i < ts.length:=(List.getElem?_eq_some_iff.mp htk).1
   obtain ⟨kd,num,pl⟩:=tk
   refine ⟨c,_,rfl,SqT.of (s1 _ _ hat),rfl,_,_,rfl,_,_,rfl,_,_,rfl,rfl,rfl,?_⟩
   refine ⟨_,rfl,fun v H'=>H1 = H'∧v = .int (keptT (kd,num,pl)).2.1,?_,?_⟩
   ·refine ⟨_,rfl,aV,_,rfl,.inr (T.vars H1),rfl,rfl,_,rfl,ite2 (fun h=>?_) (fun h=>?_)⟩
    ·rw [if_neg (by decide),in_vars] at h
     refine ⟨_,rfl,_,rfl,_,_,rfl,rfl,rfl,?_⟩
     unfold keptT
     rw [if_pos (of_decide_eq_true h)]
    ·rw [if_neg (by decide),in_vars] at h
     refine ⟨_,rfl,rfl,?_⟩
     unfold keptT
     rw [if_neg (fun q=>h (decide_eq_true q))]
   (intro _ _ oi15; refine o0_2 oi15 fun y16_0 y16_1=>?_; try clear oi15; subst y16_0; subst y16_1)
   refine ⟨_,rfl,(by show 3≤sizeLine; decide),fun p hp=>?_⟩
   have nDp:D≠p:=ne_of_none hD1 hp
   have sp:=same_new (o:=.tup [V.str (nm kd),V.int (keptT (kd,num,pl)).2.1,V.int (pl:Int)]) hp
   refine ⟨_,sp _ _ hD1,?_,Same.put (s1.trans sp) hD,bs ++ [p],?_,by rw [List.length_append,hbl]; rfl,?_⟩
   ·rw [List.length_map,hbl]
    exact Nat.lt_of_le_of_lt (Nat.le_trans (Nat.le_of_lt hi2) hlen) (by decide)
   ·rw [upd_same,List.map_append]
    rfl
   ·rw [take_snoc htk,List.map_append]
    refine Paired.snoc (Paired.mapP hbp fun b t e=>?_) ?_
    ·have m1:b≠D:=ne_of (show H1 b = some (.tup _) from e) hD1 (by intro z; cases z)
     show upd _ _ _ b = _
     rw [upd_ne m1]
     exact sp _ _ e
    ·show upd _ _ _ p = _
     rw [upd_ne (Ne.symm nDp),upd_same]
     rfl
  ·rintro H1 ⟨s1,bs,hD1,hbl,hbp⟩
   rw [List.length_map,Paired.length ha2,List.take_length] at hbp
   exact k H1 D s1 hD ⟨bs,hD1,hbp⟩
abbrev s_standing:Stmt:=top 33
theorem sc_standing:FnScope ["stands","number"] ["stands","number"] (defScope s_standing):=⟨rfl,rfl,rfl,by decide +kernel,rfl,by decide +kernel,by decide +kernel⟩
theorem bi_standing:Bi "standing" s_standing ["stands","number"]:=fun _ _ _ _ _ _ us hl=>by (refine o2_1 (len2 hl) fun _ _ y19_2=>?_; subst y19_2); rfl
theorem ok_standing (F:FnAt K mg "standing" s_standing) (T:Txt P w K mg aB aF aE aS aV):Own P w K mg base "standing" 1 ["stands","number"] spStand:=by
 refine Own.of F sc_standing bi_standing (fun vs H Q E h=>?_) (fun f cdv A outer s H vs Q E hr h=>?_)
 ·(refine o6_2 h fun d i r k st kvs y20_6 _=>?_; try clear h; subst y20_6)
  rfl
 ·(refine o6_5 h fun d i r k st kvs y21_6 hd hst hl q=>?_; try clear h; subst y21_6)
  refine ⟨_,(pss_cons (ps_while PassesOwn.never (pt_cmp (pc_din (hu_of hr) (pv 1) (pv 0)))
    (pss_one (ps_set (i:=1) sc_standing.nd rfl (Or.inl rfl) (pe_dget (hu_of hr) (pv 0) (pv 1) (fun _ _=>rfl)))))
   (pss_one (ps_ret (pv 1)))),?_⟩
  try dsimp only [cxOf,Cx.nox]
  refine ⟨fun m σ H'=>∃ j:Nat,σ = [some (.ref d),some (.int (j:Int))]∧H = H'∧Mi.Lead st.put j r m,⟨k,i,rfl,rfl,hl⟩,?_⟩
  (intro m σ _ oi22; refine o1_3 oi22 fun j y23_1 y23_2 hl=>?_; try clear oi22; subst y23_1; subst y23_2)
  have hj:=hst j
  refine ⟨_,rfl,_,rfl,d,_,rfl,DGet.k (k:=.inl (j:Int)) hd,_,rfl,?_⟩
  rw [hj]
  cases hl with
  | here h =>
   rw [if_pos h]
   exact iteF ⟨_,rfl,q⟩
  | @step _ j2 _ k2 h1 h2 h3 =>
   rw [h1,if_neg h2]
   rw [h1,if_neg h2] at hj
   exact iteT ⟨_,fun _ _ z=>z,_,rfl,_,rfl,d,_,rfl,.inl ⟨kvs,.inl (j:Int),.inl hd,rfl,hj.symm⟩,k2,Nat.lt_succ_self _,j2,rfl,rfl,h3⟩
abbrev s_gives_way:Stmt:=top 34
theorem sc_gives_way:FnScope ["nodes","number","fixed"] ["nodes","number","fixed"] (defScope s_gives_way):=⟨rfl,rfl,rfl,by decide +kernel,rfl,by decide +kernel,by decide +kernel⟩
theorem bi_gives_way:Bi "gives_way" s_gives_way ["nodes","number","fixed"]:=fun _ _ _ _ _ _ us hl=>by (refine o3_1 (len3 hl) fun _ _ _ y24_3=>?_; subst y24_3); rfl
theorem ok_gives_way (F:FnAt K mg "gives_way" s_gives_way) (T:Txt P w K mg aB aF aE aS aV):Own P w K mg base "gives_way" 1 ["nodes","number","fixed"] spGives:=by
 refine Own.of F sc_gives_way bi_gives_way (fun vs H Q E h=>?_) (fun f cdv A outer s H vs Q E hr h=>?_)
 ·(refine o5_2 h fun na i fx tb n y25_5 _=>?_; try clear h; subst y25_5)
  rfl
 ·(refine o5_4 h fun na i fx tb n y26_5 hna hn k=>?_; try clear h; subst y26_5)
  refine o2_3 (nodes_at hna hn) fun as a h1 h2 h3=>?_
  refine ⟨_,(pss_one (ps_ret (pe_and (pe_cmpR op_lt (pv 1) (pv 2) (nomark _)) (pe_one (pe_cmpR op_in_seq (pe_ix ix_tup (pe_ix ix_list (pv 0) (pv 1) (fun _ _=>rfl)) pe_int (fun _ _=>rfl)) (pe_gref (by rfl) T.g_VARIABLES) (by with_unfolding_all rfl)))))),?_⟩
  try dsimp only [cxOf,Cx.nox]
  have e:decide ((i:Int) < (fx:Int)) = decide (i < fx):=decide_eq_decide.mpr Int.ofNat_lt
  refine ⟨_,rfl,_,rfl,_,_,rfl,rfl,_,rfl,?_⟩
  refine and_b (b:=Mi.varS n.1) (c:=decide (i < fx) && Mi.varS n.1) (by rw [e]) k fun k=>?_
  refine ⟨_,rfl,_,rfl,na,_,_,_,rfl,rfl,SqL.of h1,h2,a,_,_,_,rfl,rfl,SqT.of h3,at_zero n,aV,_,rfl,.inr (T.vars H),rfl,rfl,?_⟩
  rw [if_neg (by decide),in_varS]
  exact k
end
end Jd
namespace Jd
open PySem PySem.Spec PyProof.Rows L2 W1
open PySem.W (Codec)
def resN (s:Rs.Store) (tb:List Mi.Nk):List Mi.Nk:=(List.range tb.length).map fun i=>(tb[s.root i]?).getD (none,[])
theorem resN_len (s:Rs.Store) (tb:List Mi.Nk):(resN s tb).length = tb.length:=by simp [resN]
theorem resN_at {s:Rs.Store} {tb:List Mi.Nk} {i:Nat} {n:Mi.Nk} (hi:i < tb.length) (h:tb[s.root i]? = some n):(resN s tb)[i]? = some n:=by
 unfold resN
 rw [List.getElem?_map,List.getElem?_range hi]
 simp [h]
structure ES (H:Hp) (tb:List Mi.Nk) (fx:Nat) (R0:Option Rs.Store) (pd pw:Addr) (m:Nat) (st:Rs.Store) (l:List (Nat × Nat)) (H':Hp):Prop where
 same:Same H H'
 wait:∃ as:List Addr,H' pw = some (.lst (as.reverse.map V.ref))∧Paired (PrAt H') as l
 put:∃ kvs:List (Key × V),H' pd = some (.dK kvs)∧StR st kvs∧kvs.length + Mi.nrs st≤tb.length
 nodes:st.nodes = (Mi.stOf tb fx).nodes
 wf:∃ B,Mi.WfS st B
 bd:Mi.Bd st l
 res:Mi.eqAll m st l = R0
 fuel:2 * Mi.nrs st + l.length≤m
 le:m≤30000
abbrev EInv (H:Hp) (tb:List Mi.Nk) (fx:Nat) (R0:Option Rs.Store) (pa na pd pw:Addr) (mm:Nat) (σ:L2.St) (H':Hp):Prop:=∃ (x y z:Option V) (st:Rs.Store) (l:List (Nat × Nat)),σ = [some (.ref pa),some (.ref na),some (.int (fx:Int)),some (.ref pd),some (.ref pw),x,y,z,none]∧ES H tb fx R0 pd pw mm st l H'
def spMade:Sp:=fun vs H Q _=>∃ (pa na:Addr) (fx:Nat) (ps:List Addr) (l0:List (Nat × Nat)) (tb:List Mi.Nk),vs = [.ref pa,.ref na,.int (fx:Int)]∧H pa = some (.lst (ps.map V.ref))∧Paired (PrAt H) ps l0∧NodesAt H na tb∧Mi.TbOk tb∧Mi.RigOk fx tb ∧
 (∀ p ∈ l0,p.1 < tb.length∧p.2 < tb.length)∧l0.length≤2∧tb.length≤10000 ∧
 (Mi.eqAll (2 * Mi.nrs (Mi.stOf tb fx) + l0.length) (Mi.stOf tb fx) l0.reverse = none→∀ H':Hp,Same H H'→Q .non H') ∧
 ∀ s',Mi.eqAll (2 * Mi.nrs (Mi.stOf tb fx) + l0.length) (Mi.stOf tb fx) l0.reverse = some s'→(∃ B,Mi.WfS s' B)→s'.nodes = (Mi.stOf tb fx).nodes→∀ (H':Hp) (p:Addr),Same H H'→H p = none→NodesAt H' p (resN s' tb)→Q (.ref p) H'
theorem in_leafS (g:Mi.Sg):inV (.str (sgn g)) [.str "ROW",.str "ITEM",.str "num",.str "bool"] = Mi.leafS g:=by
 cases g with
 | none=>decide +kernel
 | some k=>cases k <;> decide +kernel
theorem var_nd {tb:List Mi.Nk} {i fx:Nat} {n:Mi.Nk} (h:Mi.NkOk tb i n):Rs.isVar (Mi.ndI fx i n) = (decide (i < fx) && Mi.varS n.1):=by
  cases h <;> first
    | rfl
    | (by_cases q:i < fx
       · simp [Mi.ndI,Mi.ndS,q,Rs.isVar,Mi.varS]
       · simp [Mi.ndI,Mi.ndS,q,Rs.isVar,Mi.varS])
    | (simp [Mi.ndI,Mi.ndS,Rs.isVar,Mi.varS])
theorem zip_new {l m:List Int} (h1:∀ x ∈ l,∃ a:Nat,x = (a:Int)) (h2:∀ x ∈ m,∃ a:Nat,x = (a:Int)):(l.map V.int).zip (m.map V.int) = (Mi.zipN l m).map fun p=>(V.int (p.1:Int),V.int (p.2:Int)):=by
 unfold Mi.zipN
 rw [← List.zip_map',List.map_map]
 induction l generalizing m with
 | nil=>rfl
 | cons a l ih =>
  cases m with
  | nil=>rfl
  | cons b m =>
   (refine o1_1 (h1 a (by simp)) fun x y1_1=>?_; subst y1_1)
   (refine o1_1 (h2 b (by simp)) fun y y2_1=>?_; subst y2_1)
   have:=ih (m:=m) (fun z hz=>h1 z (by simp [hz])) fun z hz=>h2 z (by simp [hz])
   simp only [List.map_cons,List.zip_cons_cons] at this ⊢
   rw [this]
   rfl
theorem sgn_eq (a b:Mi.Sg):decide (V.str (sgn a) = V.str (sgn b)) = decide (a = b):=decide_eq_decide.mpr ⟨fun h=>sgn_inj (V.str.inj h),fun h=>by rw [h]⟩
theorem lead_of {st:Rs.Store} {B i:Nat} (W:Mi.WfS st B) (hi:i < st.nodes.size):∃ k,Mi.Lead st.put i (st.root i) k:=let ⟨k,h,_⟩:=W.root hi; ⟨k,h⟩
section
variable {P:Program} {w:World} {K:PySem.W.Frag} {mg:Str→Option Value} {base:Heap} {aB aF aE aS aV aLe aHE aIE aPa:Addr}
abbrev s_made_equal:Stmt:=top 32
theorem sc_made_equal:FnScope ["pairs","nodes","fixed","stands","waiting","pair","one","other","number"] ["pairs","nodes","fixed"] (defScope s_made_equal):=⟨rfl,rfl,rfl,by decide +kernel,rfl,by decide +kernel,by decide +kernel⟩
theorem bi_made_equal:Bi "made_equal" s_made_equal ["pairs","nodes","fixed"]:=fun _ _ _ _ _ _ us hl=>by (refine o3_1 (len3 hl) fun _ _ _ y3_3=>?_; subst y3_3); rfl
theorem ok_made_equal (F:FnAt K mg "made_equal" s_made_equal) (T:Txt P w K mg aB aF aE aS aV) (T3:Txt3 P w K mg aLe aHE aIE aPa) (C_standing:Own P w K mg base "standing" 1 ["stands","number"] spStand) (C_gives_way:Own P w K mg base "gives_way" 1 ["nodes","number","fixed"] spGives):Own P w K mg base "made_equal" 2 ["pairs","nodes","fixed"] spMade:=by
 refine Own.of F sc_made_equal bi_made_equal (fun vs H Q E h=>?_) (fun f cdv A outer s H vs Q E hr h=>?_)
 ·(refine o6_2 h fun pa na fx ps l0 tb y4_6 _=>?_; try clear h; subst y4_6)
  rfl
 ·(refine o6_11 h fun pa na fx ps l0 tb y5_6 hpa hps hna hT hR hbd hl0 htb kN kS=>?_; try clear h; subst y5_6)
  generalize hR0:Mi.eqAll (2 * Mi.nrs (Mi.stOf tb fx) + l0.length) (Mi.stOf tb fx) l0.reverse = R0 at kN kS
  refine ⟨_,(pss_cons (ps_set (i:=3) sc_made_equal.nd rfl (Or.inr rfl) pe_dnewK)
   (pss_cons (ps_set (i:=4) sc_made_equal.nd rfl (Or.inl rfl) (pe_callTy call_list_of (by rfl) T.b_list bo_list (pa_cons (pv 0) pa_nil)))
   (pss_cons (ps_while PassesOwn.never (pt_cmpR (op_neD hr.units) (pv 4) (pe_lst pa_nil) (nomark _))
    (pss_cons (ps_set (i:=5) sc_made_equal.nd rfl (Or.inl rfl) (pe_bm0 PySem.F.plainAttrs_list PySem.F.slot_list_pop PySem.F.type_list_pop mt_pop (pv 4)))
    (pss_cons (ps_set (i:=6) sc_made_equal.nd rfl (Or.inl rfl) (pe_own C_standing (hr.mono (by decide)) (by rfl) (pa_cons (pv 3) (pa_cons (pe_ix ix_tup (pv 5) pe_int (fun _ _=>rfl)) pa_nil))))
    (pss_cons (ps_set (i:=7) sc_made_equal.nd rfl (Or.inl rfl) (pe_own C_standing (hr.mono (by decide)) (by rfl) (pa_cons (pv 3) (pa_cons (pe_ix ix_tup (pv 5) pe_int (fun _ _=>rfl)) pa_nil))))
    (pss_cons (ps_if (pt_cmpR op_eq (pv 6) (pv 7) (nomark _))
     (pss_one ps_continue)
     pss_nil)
    (pss_one (ps_if (pt_val (pe_own C_gives_way (hr.mono (by decide)) (by rfl) (pa_cons (pv 1) (pa_cons (pv 6) (pa_cons (pv 2) pa_nil)))))
     (pss_one (ps_dput (hu_of hr) (pv 3) (pv 6) (pv 7) rfl))
     (pss_one (ps_if (pt_val (pe_own C_gives_way (hr.mono (by decide)) (by rfl) (pa_cons (pv 1) (pa_cons (pv 7) (pa_cons (pv 2) pa_nil)))))
      (pss_one (ps_dput (hu_of hr) (pv 3) (pv 7) (pv 6) rfl))
      (pss_one (ps_if (pt_cut (pw_or (pt_cmpR op_ne (pe_ix ix_tup (pe_ix ix_list (pv 1) (pv 6) (fun _ _=>rfl)) pe_int (fun _ _=>rfl)) (pe_ix ix_tup (pe_ix ix_list (pv 1) (pv 7) (fun _ _=>rfl)) pe_int (fun _ _=>rfl)) (nomark _)) (pw_or1 (pt_cmpR op_in_seq (pe_ix ix_tup (pe_ix ix_list (pv 1) (pv 6) (fun _ _=>rfl)) pe_int (fun _ _=>rfl)) (pe_gref (by rfl) T3.g_LEAVES) (by with_unfolding_all rfl)))).pt)
       (pss_one (ps_ret pe_non))
       (pss_cons (ps_dput (hu_of hr) (pv 3) (pv 6) (pv 7) rfl)
       (pss_one (ps_expr (pe_bm PySem.F.plainAttrs_list PySem.F.slot_list_extend PySem.F.type_list_extend mt_extend (pv 4) (pa_cons (pe_listzip rfl (by rfl) T.b_list (by rfl) T3.b_zip (pa_cons (pe_slice sl_tup (pe_ix ix_list (pv 1) (pv 6) (fun _ _=>rfl)) (po_some pe_int) po_none) (pa_cons (pe_slice sl_tup (pe_ix ix_list (pv 1) (pv 7) (fun _ _=>rfl)) (po_some pe_int) po_none) pa_nil))) pa_nil))))))))))))))))
   (pss_one (ps_ret (pe_lc (own:=[("number",8)]) rfl sc_made_equal.nd (pi_range1 (by rfl) T3.b_range (pa_cons (pe_callB call_len_seq (by rfl) T.b_len bo_len (pa_cons (pv 1) pa_nil)) pa_nil)) (blkOk_by (by show blkC ["pairs","nodes","fixed","stands","waiting","pair","one","other","number"] (defScope s_made_equal) _ _ = true; decide +kernel)) (fun _ _ _ _ _=>(pg_name (i:=8) sc_made_equal.nd rfl (Or.inl rfl))) (fun _ _ _ _ _=>pts_nil) (fun _ _ _ _ _=>(pe_ix (ix_listK (K:=K) rfl) (pv 1) (pe_own C_standing (hr.mono (by decide)) (by rfl) (pa_cons (pv 3) (pa_cons (pv 8) pa_nil))) (fun _ _=>rfl))))))))),?_⟩
  try dsimp only [cxOf,Cx.nox]
  refine fun pd hpd=>?_
  have s0:Same H (upd H pd (.dK [])):=same_new hpd
  refine ⟨_,rfl,pa,_,rfl,.inl (SqL.of (s0 _ _ hpa)),fun pw hpw=>?_⟩
  have ndw:pd≠pw:=fun z=>by rw [← z,upd_same] at hpw; cases hpw
  have hpw0:H pw = none:=s0.free hpw
  have s1:Same H (upd (upd H pd (.dK [])) pw (.lst (ps.map V.ref))):=s0.trans (same_new hpw)
  have F0:=Mi.st_flat tb fx
  have es0:ES H tb fx R0 pd pw (2 * Mi.nrs (Mi.stOf tb fx) + l0.length) (Mi.stOf tb fx) l0.reverse (upd (upd H pd (.dK [])) pw (.lst (ps.map V.ref))):=by
   refine ⟨s1,⟨ps.reverse,by rw [upd_same,List.reverse_reverse],paired_rev (Paired.mapP hps fun a p e=>s1 _ _ e)⟩,⟨[],by rw [upd_ne ndw,upd_same],fun i=>?_,?_⟩,rfl,⟨0,F0.wf⟩,fun p hp=>?_,hR0,by rw [List.length_reverse]; exact Nat.le_refl _,?_⟩
   ·rw [F0.put,if_pos rfl]
    rfl
   ·have:=F0.wf.cnt
    rw [Mi.st_size] at this
    simp only [List.length_nil]
    omega
   ·rw [Mi.st_size]
    exact hbd p (List.mem_reverse.mp hp)
   ·have:=F0.wf.cnt
    rw [Mi.st_size] at this
    omega
  refine ⟨EInv H tb fx R0 pa na pd pw,⟨_,none,none,none,_,_,rfl,es0⟩,?_⟩
  (intro mm σ H2 oi6; refine o5_2 oi6 fun x y z st l y7_5 es=>?_; try clear oi6; subst y7_5)
  refine o1_2 es.wait fun as has hpr=>?_
  refine o1_3 es.put fun kvs hkv hst hkl=>?_
  refine o1_1 es.wf fun B W=>?_
  have hsz:st.nodes.size = tb.length:=by rw [es.nodes,Mi.st_size]
  refine ⟨_,rfl,Nat.zero_le _,fun q0 hq0=>?_⟩
  have sq:Same H2 (upd H2 q0 (.lst [])):=same_new hq0
  generalize eH3:upd H2 q0 (.lst []) = H3 at sq
  have hq3:H3 q0 = some (.lst []):=by rw [← eH3]; exact upd_same
  have hpr3:Paired (PrAt H3) as l:=Paired.mapP hpr fun a p e=>sq _ _ e
  have s3:=es.same.trans sq
  have hkv3:=sq _ _ hkv
  have hDp:DpAll K H3 (as.reverse.map V.ref) (l.reverse.map dP):=dP_dp (paired_rev hpr3)
  refine ⟨_,_,.lst (SqL.of (sq _ _ has)) hDp,.lst (SqL.of hq3) .nil,dP_shp _,rfl,_,rfl,?_⟩
  rw [dP_nil]
  cases hl:l with
  | nil =>
   subst hl
   refine iteF ?_
   have hres:R0 = some st:=by
    rw [← es.res]
    cases mm <;> rfl
   refine o1_2 (id hna) fun nas hna1 hnp=>?_
   have hnl:nas.length = tb.length:=Paired.length hnp
   refine ⟨_,rfl,na,_,rfl,.inl (SqL.of (s3 _ _ hna1)),_,rfl,?_,?_,fun D hD=>?_⟩
   ·have:(0:Int)≤((nas.map V.ref).length:Int):=Int.natCast_nonneg _
    exact Int.le_trans (by decide) this
   ·rw [List.length_map,hnl]
    exact Int.lt_of_le_of_lt (show (tb.length:Int)≤10000 by omega) (by decide)
   refine lc_range (lo:=0) (fun i H'=>Same H3 H'∧∃ bs:List Addr,H' D = some (.lst (bs.map V.ref))∧bs.length = i∧Paired (NdAt H3) bs ((resN st tb).take i)) ⟨same_new hD,[],upd_same,rfl,.nil⟩ ?_ ?_
   ·rintro i H4 hi ⟨s4,bs,hD4,hbl,hbp⟩
    have hi':i < tb.length:=by
     rw [Int.toNat_natCast,List.length_map,hnl] at hi
     exact hi
    (refine o1_1 (lead_of W (show i < st.nodes.size by rw [hsz]; exact hi')) fun k hlead=>?_)
    have hr':st.root i < tb.length:=by rw [← hsz]; exact W.root_lt (by rw [hsz]; exact hi')
    refine o1_1 (Mi.at_lt hr') fun n hn=>?_
    refine o1_2 (paired_get2 hnp hn) fun a ha hat=>?_
    simp only [Int.zero_add]
    refine ⟨rfl,_,rfl,_,rfl,_,rfl,pd,i,st.root i,k,st,kvs,rfl,s4 _ _ hkv3,hst,hlead,na,_,_,_,rfl,rfl,SqL.of (s4 _ _ (s3 _ _ hna1)),atI_nat (by rw [List.getElem?_map,ha]; rfl),?_⟩
    refine ⟨_,hD4,?_,Same.put s4 hD,bs ++ [a],?_,by rw [List.length_append,hbl]; rfl,?_⟩
    ·rw [List.length_map,hbl]
     exact Nat.lt_of_le_of_lt (show i≤10000 by omega) (by decide)
    ·rw [upd_same,List.map_append]
     rfl
    ·rw [take_snoc (resN_at hi' hn)]
     exact Paired.snoc hbp (s3 _ _ hat)
   ·rintro H4 ⟨s4,bs,hD4,hbl,hbp⟩
    rw [Int.toNat_natCast,List.length_map,hnl,← resN_len st tb,List.take_length] at hbp
    exact kS st hres ⟨B,W⟩ es.nodes H4 D (s3.trans s4) (s3.free hD) ⟨bs,hD4,Paired.mapP hbp fun a n e=>s4 _ _ e⟩
  | cons p l' =>
   subst hl
   have hne:(!(p :: l').reverse.isEmpty) = true:=by simp
   rw [hne]
   refine iteT ?_
   (refine o2_3 (paired_cons hpr3) fun a as' y19_2 hpa3 hpr'=>?_; subst y19_2)
   refine o0_2 (es.bd p (by simp)) fun hp1 hp2=>?_
   have hbl':Mi.Bd st l':=fun q hq=>es.bd q (by simp [hq])
   have hfu:=es.fuel
   have hle:=es.le
   simp only [List.length_cons] at hfu
   (refine o1_1 (show ∃ m',mm = m' + 1 from ⟨mm - 1,by omega⟩) fun m' y21_1=>?_; subst y21_1)
   have hi:=W.root_lt hp1
   have hj:=W.root_lt hp2
   have ri:=W.self hp1
   have rj:=W.self hp2
   have hres:=es.res
   simp only [Mi.eqAll] at hres
   refine o1_1 (lead_of W hp1) fun k1 lead1=>?_
   refine o1_1 (lead_of W hp2) fun k2 lead2=>?_
   rw [hsz] at hi hj
   refine o1_1 (Mi.at_lt hi) fun n1 hn1=>?_
   refine o1_1 (Mi.at_lt hj) fun n2 hn2=>?_
   have hip:st.root p.1 < st.put.size:=by rw [W.size,hsz]; exact hi
   have hjp:st.root p.2 < st.put.size:=by rw [W.size,hsz]; exact hj
   have hnd:∀ i n,tb[i]? = some n→Mi.ndAt st i = Mi.ndI fx i n:=fun i n h=>by
    unfold Mi.ndAt
    rw [es.nodes]
    exact Mi.st_nd h
   rw [hnd _ _ hn1,hnd _ _ hn2] at hres
   have v1:=var_nd (fx:=fx) (hT.ok _ _ hn1)
   have v2:=var_nd (fx:=fx) (hT.ok _ _ hn2)
   refine ⟨_,fun _ _ h=>h,?_⟩
   have hasr:H3 pw = some (.lst (as'.reverse.map V.ref ++ [V.ref a])):=by
    rw [sq _ _ has,List.reverse_cons,List.map_append]
    rfl
   refine ⟨_,rfl,.inl ⟨rfl,_,SqL.of hasr⟩,pw,_,_,rfl,rfl,hasr,pop_last _ _,?_⟩
   rw [List.dropLast_concat]
   generalize eH4:upd H3 pw (.lst (as'.reverse.map V.ref)) = H4
   have hpw4:H4 pw = some (.lst (as'.reverse.map V.ref)):=by rw [← eH4]; exact upd_same
   have k4:∀ {b:Addr} {xs:List V},H3 b = some (.tup xs)→H4 b = some (.tup xs):=fun {b xs} h=>by rw [← eH4,upd_ne (ne_of h hasr (by intro z; cases z))]; exact h
   have s4:Same H H4:=by rw [← eH4]; exact Same.put s3 hpw0
   have hkv4:H4 pd = some (.dK kvs):=by rw [← eH4,upd_ne ndw]; exact hkv3
   have hpr4:Paired (PrAt H4) as' l':=Paired.mapP hpr' fun b p e=>k4 e
   have hpa4:PrAt H4 a p:=k4 hpa3
   have hna4:=hna.same s4
   refine o2_3 (nodes_at hna4 hn1) fun nas1 a1 hna1 hat1 hnd1=>?_
   refine o2_3 (nodes_at hna4 hn2) fun nas2 a2 hna2 hat2 hnd2=>?_
   have hal:as'.length = l'.length:=Paired.length hpr4
   refine ⟨_,rfl,_,rfl,a,_,_,_,rfl,rfl,SqT.of hpa4,at_of (j:=0) rfl rfl,pd,p.1,st.root p.1,k1,st,kvs,rfl,hkv4,hst,lead1,?_⟩
   refine ⟨_,rfl,_,rfl,a,_,_,_,rfl,rfl,SqT.of hpa4,at_of (j:=1) rfl rfl,pd,p.2,st.root p.2,k2,st,kvs,rfl,hkv4,hst,lead2,?_⟩
   refine ⟨_,rfl,_,rfl,rfl,_,rfl,ite2 (fun h=>?_) (fun h=>?_)⟩
   ·have he:st.root p.1 = st.root p.2:=by
     have:=V.int.inj (of_decide_eq_true h)
     omega
    rw [if_pos he] at hres
    exact ⟨m',by omega,_,_,_,st,l',rfl,⟨s4,⟨as',hpw4,hpr4⟩,⟨kvs,hkv4,hst,hkl⟩,es.nodes,⟨B,W⟩,hbl',hres,by omega,by omega⟩⟩
   have he:st.root p.1≠st.root p.2:=fun q=>h (decide_eq_true (by rw [q]))
   rw [if_neg he] at hres
   have hkz:kvs.length < sizeLine:=Nat.lt_of_le_of_lt (show kvs.length≤10000 by omega) (by decide)
   have keep:∀ {b:Addr} {xs:List V} {kv:List (Key × V)},H4 b = some (.tup xs)→upd H4 pd (.dK kv) b = some (.tup xs):=fun {b xs kv} h=>by rw [upd_ne (ne_of h hkv4 (by intro z; cases z))]; exact h
   refine ⟨_,rfl,_,rfl,_,rfl,na,st.root p.1,fx,tb,n1,rfl,hna4,hn1,_,rfl,ite2 (fun h1=>?_) (fun h1=>?_)⟩
   ·-- the one gives way
    rw [if_pos (by rw [v1]; exact h1)] at hres
    have hnr:=Mi.nrs_bind (j:=st.root p.2) W.size (by rw [hsz]; exact hi) ri he
    have W':=(W.bind (by rw [hsz]; exact hi) (by rw [hsz]; exact hj) ri rj he).1
    refine ⟨_,rfl,_,rfl,_,rfl,pd,_,rfl,DPut.k (k:=.inl ((st.root p.1:Nat):Int)) hkv4 hkz,m',by omega,_,_,_,st.bind (st.root p.1) (st.root p.2),l',rfl,⟨Same.put s4 hpd,⟨as',by rw [upd_ne (Ne.symm ndw)]; exact hpw4,Paired.mapP hpr4 fun b q e=>keep e⟩,⟨_,upd_same,hst.bind hip he,?_⟩,es.nodes,⟨_,W'⟩,hbl',hres,by omega,by omega⟩⟩
    have:=length_putK kvs (.inl ((st.root p.1:Nat):Int)) (V.int ((st.root p.2:Nat):Int))
    omega
   have h1':(decide (st.root p.1 < fx) && Mi.varS n1.1) = false:=by simpa using h1
   rw [if_neg (by rw [v1,h1']; decide)] at hres
   have he':st.root p.2≠st.root p.1:=fun q=>he q.symm
   refine ⟨_,rfl,_,rfl,_,rfl,na,st.root p.2,fx,tb,n2,rfl,hna4,hn2,_,rfl,ite2 (fun h2=>?_) (fun h2=>?_)⟩
   ·rw [if_pos (by rw [v2]; exact h2)] at hres
    have hnr:=Mi.nrs_bind (j:=st.root p.1) W.size (by rw [hsz]; exact hj) rj he'
    have W':=(W.bind (by rw [hsz]; exact hj) (by rw [hsz]; exact hi) rj ri he').1
    refine ⟨_,rfl,_,rfl,_,rfl,pd,_,rfl,DPut.k (k:=.inl ((st.root p.2:Nat):Int)) hkv4 hkz,m',by omega,_,_,_,st.bind (st.root p.2) (st.root p.1),l',rfl,⟨Same.put s4 hpd,⟨as',by rw [upd_ne (Ne.symm ndw)]; exact hpw4,Paired.mapP hpr4 fun b q e=>keep e⟩,⟨_,upd_same,hst.bind hjp he',?_⟩,es.nodes,⟨_,W'⟩,hbl',hres,by omega,by omega⟩⟩
    have:=length_putK kvs (.inl ((st.root p.2:Nat):Int)) (V.int ((st.root p.1:Nat):Int))
    omega
   have h2':(decide (st.root p.2 < fx) && Mi.varS n2.1) = false:=by simpa using h2
   rw [if_neg (by rw [v2,h2']; decide)] at hres
   (refine o0_2 (Mi.alike_tb hT hR hn1 hn2 he (by rw [v1]; exact h1') (by rw [v2]; exact h2')) fun al1 al2=>?_)
   refine ⟨fun b H'=>H4 = H'∧b = (!decide (n1.1 = n2.1) || Mi.leafS n1.1),?_,?_⟩
   ·refine ⟨_,rfl,_,rfl,na,_,_,_,rfl,rfl,SqL.of hna1,hat1,a1,_,_,_,rfl,rfl,SqT.of hnd1,at_zero n1,_,rfl,_,rfl,na,_,_,_,rfl,rfl,SqL.of hna2,hat2,a2,_,_,_,rfl,rfl,SqT.of hnd2,at_zero n2,rfl,_,rfl,ite2 (fun h3=>⟨rfl,?_⟩) (fun h3=>?_)⟩
    ·rw [sgn_eq] at h3
     rw [h3]
     rfl
    ·rw [sgn_eq] at h3
     have h3':(!decide (n1.1 = n2.1)) = false:=by simpa using h3
     refine ⟨_,rfl,_,rfl,na,_,_,_,rfl,rfl,SqL.of hna1,hat1,a1,_,_,_,rfl,rfl,SqT.of hnd1,at_zero n1,aLe,_,rfl,.inr (T3.leaves H4),rfl,rfl,_,rfl,rfl,?_⟩
     rw [if_neg (by decide),in_leafS,h3',Bool.false_or]
   (intro _ _ oi29; refine o0_2 oi29 fun y30_0 y30_1=>?_; try clear oi29; subst y30_0; subst y30_1)
   refine ite2 (fun h3=>?_) (fun h3=>?_)
   ·have h3':n1.1≠n2.1∨Mi.leafS n1.1 = true:=by
     rw [Bool.or_eq_true] at h3
     rcases h3 with h3 | h3
     ·exact .inl (by simpa using h3)
     ·exact .inr h3
    rw [al1 h3'] at hres
    exact kN hres.symm H4 s4
   ·have h3':n1.1 = n2.1∧Mi.leafS n1.1 = false:=by
     simp only [Bool.or_eq_true,not_or,Bool.not_eq_true',Bool.not_eq_true,decide_eq_false_iff_not,Classical.not_not] at h3
     exact h3
    refine o0_6 (al2 h3'.1 h3'.2) fun ha hlen hn0 hle2 hx1 hx2=>?_
    rw [ha] at hres
    simp only [] at hres
    have hnr:=Mi.nrs_bind (j:=st.root p.2) W.size (by rw [hsz]; exact hi) ri he
    have W':=(W.bind (by rw [hsz]; exact hi) (by rw [hsz]; exact hj) ri rj he).1
    refine ⟨_,rfl,_,rfl,_,rfl,pd,_,rfl,DPut.k (k:=.inl ((st.root p.1:Nat):Int)) hkv4 hkz,?_⟩
    generalize eH5:upd H4 pd (.dK (putK kvs (.inl ((st.root p.1:Nat):Int)) (.int ((st.root p.2:Nat):Int)))) = H5
    have s5:Same H H5:=by rw [← eH5]; exact Same.put s4 hpd
    have hkv5:H5 pd = some (.dK (putK kvs (.inl ((st.root p.1:Nat):Int)) (.int ((st.root p.2:Nat):Int)))):=by rw [← eH5]; exact upd_same
    have keep5:∀ {b:Addr} {xs:List V},H4 b = some (.tup xs)→H5 b = some (.tup xs):=fun {b xs} h=>by rw [← eH5]; exact keep h
    have hpw5:H5 pw = some (.lst (as'.reverse.map V.ref)):=by rw [← eH5,upd_ne (Ne.symm ndw)]; exact hpw4
    have hpr5:Paired (PrAt H5) as' l':=Paired.mapP hpr4 fun b q e=>keep5 e
    have hna5:=hna.same s5
    refine o2_3 (nodes_at hna5 hn1) fun nas3 a3 hna3 hat3 hnd3=>?_
    refine o2_3 (nodes_at hna5 hn2) fun nas4 a4 hna4' hat4 hnd4=>?_
    refine ⟨_,rfl,.inl ⟨rfl,_,SqL.of hpw5⟩,_,rfl,_,rfl,na,_,_,_,rfl,rfl,SqL.of hna3,hat3,_,rfl,a3,_,rfl,SqT.of hnd3,notwhole n1,fun q5 hq5=>?_⟩
    rw [cut1]
    generalize eH6:upd H5 q5 (.tup (n1.2.map V.int)) = H6
    have s56:Same H5 H6:=by rw [← eH6]; exact same_new hq5
    have hq5':H6 q5 = some (.tup (n1.2.map V.int)):=by rw [← eH6]; exact upd_same
    refine ⟨_,rfl,_,rfl,na,_,_,_,rfl,rfl,SqL.of (s56 _ _ hna4'),hat4,_,rfl,a4,_,rfl,SqT.of (s56 _ _ hnd4),notwhole n2,fun q6 hq6=>?_⟩
    rw [cut1]
    generalize eH7:upd H6 q6 (.tup (n2.2.map V.int)) = H7
    have s67:Same H6 H7:=by rw [← eH7]; exact same_new hq6
    have hq6':H7 q6 = some (.tup (n2.2.map V.int)):=by rw [← eH7]; exact upd_same
    refine ⟨true,q5,q6,_,_,rfl,sqx_t (SqT.of (s67 _ _ hq5')),sqx_t (SqT.of hq6'),by rw [List.length_map,List.length_map,hlen],(fun z=>hn0 (List.map_eq_nil_iff.mp z)),by rw [List.length_map]; exact Nat.le_trans hle2 (by decide),fun H8 la ts s78 hla hl8 hts=>?_⟩
    have s58:=(s56.trans s67).trans s78
    have hts8:Paired (PrAt H8) ts (Mi.zipN n1.2 n2.2):=by
     rw [zip_new hx1 hx2] at hts
     exact pr_of hts
    have htl:ts.length = (Mi.zipN n1.2 n2.2).length:=Paired.length hts8
    have hzl:(Mi.zipN n1.2 n2.2).length≤2:=by
     unfold Mi.zipN
     rw [List.length_map,List.length_zip]
     omega
    have hpw8:=s58 _ _ hpw5
    refine ⟨pw,la,_,_,rfl,rfl,hpw8,hl8,?_,?_⟩
    ·simp only [List.length_map,List.length_reverse]
     exact Nat.le_trans (show as'.length + ts.length≤30002 by omega) (by decide)
    ·have k8:∀ {b:Addr} {xs:List V} {o:HO},H8 b = some (.tup xs)→upd H8 pw o b = some (.tup xs):=fun {b xs o} h=>by rw [upd_ne (ne_of h hpw8 (by intro z; cases z))]; exact h
     have hbk:Mi.Bd (st.bind (st.root p.1) (st.root p.2)) ((Mi.zipN n1.2 n2.2).reverse ++ l'):=fun q hq=>by
      rcases List.mem_append.mp hq with z | z
      ·refine (Mi.alike_bd (s:=st) ?_ (by rw [hsz]; exact hi) (by rw [hsz]; exact hj) ?_).1 q (List.mem_reverse.mp z)
       ·have hK:=(Mi.st_dag hT fx).kids
        unfold Mi.KidsIn Mi.ndAt at hK ⊢
        rw [es.nodes]
        exact hK
       ·rw [hnd _ _ hn1,hnd _ _ hn2]
        exact ha
      ·exact hbl' q z
     refine ⟨m',by omega,_,_,_,st.bind (st.root p.1) (st.root p.2),(Mi.zipN n1.2 n2.2).reverse ++ l',rfl,⟨Same.put (s5.trans s58) hpw0,⟨ts.reverse ++ as',?_,?_⟩,⟨_,by rw [upd_ne ndw]; exact s58 _ _ hkv5,hst.bind hip he,?_⟩,es.nodes,⟨_,W'⟩,hbk,hres,?_,by omega⟩⟩
     ·rw [upd_same,List.reverse_append,List.reverse_reverse,List.map_append]
     ·exact paired_app (paired_rev (Paired.mapP hts8 fun b q e=>k8 e)) (Paired.mapP hpr5 fun b q e=>k8 (s58 _ _ e))
     ·have:=length_putK kvs (.inl ((st.root p.1:Nat):Int)) (V.int ((st.root p.2:Nat):Int))
      omega
     ·rw [List.length_append,List.length_reverse]
      omega
end
end Jd
namespace Jd
open PySem PySem.Spec PyProof.Rows L2 W1
open PySem.W (Codec)
def spTextA:Sp:=fun vs H Q _=>∃ (q:Addr) (ns:List Int),vs = [.ref q]∧H q = some (.lst (ns.map V.int))∧ns.length≤200000∧∀ (H':Hp) (p:Addr),Same H H'→H' p = some (.lst ((0 :: (ns.length:Int) :: ns).map V.int))→Q (.ref p) H'
section
variable {P:Program} {w:World} {K:PySem.W.Frag} {mg:Str→Option Value} {base:Heap} {aB aF aE aS aV:Addr}
abbrev s_text_answer:Stmt:=top 15
theorem sc_text_answer:FnScope ["text"] ["text"] (defScope s_text_answer):=⟨rfl,rfl,rfl,by decide +kernel,rfl,by decide +kernel,by decide +kernel⟩
theorem bi_text_answer:Bi "text_answer" s_text_answer ["text"]:=fun _ _ _ _ _ _ us hl=>by (refine o1_1 (len1 hl) fun _ y1_1=>?_; subst y1_1); rfl
theorem ok_text_answer (F:FnAt K mg "text_answer" s_text_answer) (T:Txt P w K mg aB aF aE aS aV):Own P w K mg base "text_answer" 1 ["text"] spTextA:=by
 refine Own.of F sc_text_answer bi_text_answer (fun vs H Q E h=>?_) (fun f cdv A outer s H vs Q E hr h=>?_)
 ·(refine o2_2 h fun q ns y2_2 _=>?_; subst y2_2)
  rfl
 ·(refine o2_4 h fun q ns y3_2 hq hl k=>?_; subst y3_2)
  refine ⟨_,(pss_one (ps_ret (pe_op op_cat (pe_lst (pa_cons pe_int (pa_cons (pe_callB call_len_seq (by rfl) T.b_len bo_len (pa_cons (pv 0) pa_nil)) pa_nil))) (pv 0)))),?_⟩
  try dsimp only [cxOf,Cx.nox]
  refine ⟨_,rfl,q,_,rfl,.inl (SqL.of hq),(by show 2≤sizeLine; decide),fun g hg=>?_⟩
  have hq6:=(same_new (o:=.lst [V.int 0,V.int ((ns.map V.int).length:Int)]) hg) _ _ hq
  refine ⟨_,rfl,g,q,_,_,rfl,rfl,upd_same,hq6,?_,fun r hr=>?_⟩
  ·simp only [List.length_map,List.length_cons,List.length_nil]
   exact Nat.le_trans (Nat.add_le_add_left hl _) (by decide)
  ·refine k _ r ((same_new hg).trans (same_new hr)) ?_
   rw [upd_same,List.length_map]
   rfl
end
end Jd
namespace Jd
open PySem PySem.Spec PyProof.Rows L2 W1
open PySem.W (Codec)
structure Txt4 (mg:Str→Option Value):Prop where
 b_reversed:mg "reversed" = none
 b_isinstance:mg "isinstance" = none
 b_sum:mg "sum" = none
def WR (W:Nat→Option Nat) (kvs:List (Key × V)):Prop:=∀ i:Nat,valV kvs (.inl (i:Int)) = (W i).map fun (n:Nat)=>V.int (n:Int)
def ER (E:List Nat) (kvs:List (Key × V)):Prop:=∀ i:Nat,(valV kvs (.inl (i:Int))).isSome = decide (i ∈ E)
theorem WR.put {W:Nat→Option Nat} {kvs:List (Key × V)} (h:WR W kvs) (i n:Nat):WR (Mi.wPut W i n) (putK kvs (.inl (i:Int)) (.int (n:Int))):=fun a=>by
 rw [valV_put]
 unfold Mi.wPut
 by_cases e:a = i
 ·subst e
  rw [if_pos rfl,if_pos rfl]
  rfl
 ·rw [if_neg (fun q=>e (key_nat q)),if_neg e]
  exact h a
theorem ER.put {E:List Nat} {kvs:List (Key × V)} (h:ER E kvs) (i:Nat) (v:V):ER (E ++ [i]) (putK kvs (.inl (i:Int)) v):=fun a=>by
 rw [valV_put]
 by_cases e:a = i
 ·subst e
  rw [if_pos rfl]
  simp
 ·rw [if_neg (fun q=>e (key_nat q)),h a]
  simp [e]
structure NodeR (s:Rs.Store) (tb:List Mi.Nk):Prop where
 size:s.nodes.size = tb.length
 at_:∀ i,i < tb.length→∃ n,(resN s tb)[i]? = some n∧Mi.NdC tb tb.length (s.root i) n (s.at_ i)
def il (l:List Nat):List V:=l.map fun (i:Nat)=>V.int (i:Int)
theorem parts_of {tb:List Mi.Nk} {i:Nat} {n:Mi.Nk} {x:Rs.Nd} (h:Mi.NdC tb tb.length i n x) (hi:i < tb.length):(if Mi.leafS n.1 = true then [] else n.2.map V.int) = il (Rs.under x)∧(if n.1 = none then (0:Nat) else 1) = Mi.own x:=by
 cases h <;> first
  | exact ⟨rfl,rfl⟩
  | (exact absurd hi (by assumption))
theorem il_int (l:List Nat):il l = (l.map fun (i:Nat)=>(i:Int)).map V.int:=by
 unfold il
 rw [List.map_map]
 rfl
theorem il_nil (l:List Nat):decide ((l.map fun (i:Nat)=>(i:Int)) = []) = decide (l = []):=by
 cases l <;> simp
structure WS (H:Hp) (tb:List Mi.Nk) (s:Rs.Store) (R0:Option (Nat→Option Nat)) (pq pe pw:Addr) (m:Nat) (W:Nat→Option Nat) (E st:List Nat) (H':Hp):Prop where
 same:Same H H'
 wq:∃ kvs,H' pq = some (.dK kvs)∧WR W kvs∧kvs.length + m≤50000
 en:∃ kvs,H' pe = some (.dK kvs)∧ER E kvs∧kvs.length + m≤50000
 wait:H' pw = some (.lst (il st.reverse))
 res:Mi.wgh s m W E st = R0
 fuel:st.length≤m
 nd:E.Nodup
 eIn:∀ e ∈ E,e < tb.length
 sIn:∀ x ∈ st,x < tb.length
 bal:3 * tb.length + st.length≤m + 3 * E.length
def spWeigh:Sp:=fun vs H Q _=>∃ (na pr:Addr) (roots:List Nat) (tb:List Mi.Nk) (s:Rs.Store) (g:Nat),vs = [.ref na,.ref pr]∧NodesAt H na (resN s tb)∧H pr = some (.lst (il roots))∧NodeR s tb∧Mi.KidsIn s∧(∀ i,i < tb.length→s.root i < tb.length)∧(∀ x ∈ roots,x < tb.length)∧roots.length = 3∧g = 3 * tb.length + 3∧tb.length≤10000 ∧
 (Mi.wgh s g Mi.wStart [] roots.reverse = none→∀ H':Hp,Same H H'→Q .non H') ∧
 ∀ W,Mi.wgh s g Mi.wStart [] roots.reverse = some W→∀ (H':Hp) (p:Addr) (kvs:List (Key × V)),Same H H'→H' p = some (.dK kvs)→WR W kvs→Q (.ref p) H'
section
variable {P:Program} {w:World} {K:PySem.W.Frag} {mg:Str→Option Value} {base:Heap} {aB aF aE aS aV aLe aHE aIE aPa:Addr}
abbrev s_weights_in:Stmt:=top 35
theorem sc_weights_in:FnScope ["nodes","roots","weights","entered","waiting","number","sign","parts","missing","part"] ["nodes","roots"] (defScope s_weights_in):=⟨rfl,rfl,rfl,by decide +kernel,rfl,by decide +kernel,by decide +kernel⟩
theorem bi_weights_in:Bi "weights_in" s_weights_in ["nodes","roots"]:=fun _ _ _ _ _ _ us hl=>by (refine o2_1 (len2 hl) fun _ _ y1_2=>?_; subst y1_2); rfl
theorem ok_weights_in (F:FnAt K mg "weights_in" s_weights_in) (T:Txt P w K mg aB aF aE aS aV) (T3:Txt3 P w K mg aLe aHE aIE aPa) (T4:Txt4 mg):Own P w K mg base "weights_in" 1 ["nodes","roots"] spWeigh:=by
 refine Own.of F sc_weights_in bi_weights_in (fun vs H Q E h=>?_) (fun f cdv A outer s H vs Q E hr h=>?_)
 ·(refine o6_2 h fun na pr roots tb s g y2_6 _=>?_; try clear h; subst y2_6)
  rfl
 ·(refine o6_12 h fun na pr roots tb st g y3_6 hna hpr hNR hK hroot hrt hr3 hg htb kN kS=>?_; try clear h; subst y3_6)
  generalize hR0:Mi.wgh st g Mi.wStart [] roots.reverse = R0 at kN kS
  refine ⟨_,(pss_cons (ps_set (i:=2) sc_weights_in.nd rfl (Or.inr rfl) pe_dnewK)
   (pss_cons (ps_set (i:=3) sc_weights_in.nd rfl (Or.inl rfl) pe_dnewK)
   (pss_cons (ps_set (i:=4) sc_weights_in.nd rfl (Or.inl rfl) (pe_callTy call_list_of (by rfl) T.b_list bo_list (pa_cons (pv 1) pa_nil)))
   (pss_cons (ps_while PassesOwn.never (pt_cmpR (op_neInts hr.units) (pv 4) (pe_lst pa_nil) (nomark _))
    (pss_cons (ps_set (i:=5) sc_weights_in.nd rfl (Or.inl rfl) (pe_ix ix_list (pv 4) (pe_un un_neg pe_int) (fun _ _=>rfl)))
    (pss_cons (ps_set (i:=6) sc_weights_in.nd rfl (Or.inl rfl) (pe_ix ix_tup (pe_ix ix_list (pv 0) (pv 5) (fun _ _=>rfl)) pe_int (fun _ _=>rfl)))
    (pss_cons (ps_set (i:=7) sc_weights_in.nd rfl (Or.inl rfl) (pe_cut (pe_ifExp (pt_cmpR op_in_seq (pv 6) (pe_gref (by rfl) T3.g_LEAVES) (by with_unfolding_all rfl)) (pe_tup pa_nil) (pe_slice sl_tup (pe_ix ix_list (pv 0) (pv 5) (fun _ _=>rfl)) (po_some pe_int) po_none))))
    (pss_cons (ps_setLc (i:=8) (own:=[("part",9)]) rfl sc_weights_in.nd rfl rfl rfl (pi_tup (pv 7)) (blkOk_by (by show blkC ["nodes","roots","weights","entered","waiting","number","sign","parts","missing","part"] (defScope s_weights_in) _ _ = true; decide +kernel)) (fun _ _ _ _ _=>(pg_name (i:=9) sc_weights_in.nd rfl (Or.inl rfl))) (fun _ _ _ _ _=>(pts_one (pt_cmp (pc_dnotin (hu_of hr) (pv 9) (pv 2))))) (fun _ _ _ _ _=>(pv 9)))
    (pss_one (ps_if (pt_cmpR (op_eqInts hr.units) (pv 8) (pe_lst pa_nil) (nomark _))
     (pss_cons (ps_dput (hu_of hr) (pv 2) (pv 5) (pe_op op_add (pe_callB (cr_sum rfl) (by rfl) T4.b_sum bo_sum (pa_cons (pe_lc (own:=[("part",9)]) rfl sc_weights_in.nd (pi_tup (pv 7)) (blkOk_by (by show blkC ["nodes","roots","weights","entered","waiting","number","sign","parts","missing","part"] (defScope s_weights_in) _ _ = true; decide +kernel)) (fun _ _ _ _ _=>(pg_name (i:=9) sc_weights_in.nd rfl (Or.inl rfl))) (fun _ _ _ _ _=>pts_nil) (fun _ _ _ _ _=>(pe_dget (hu_of hr) (pv 2) (pv 9) (fun _ _=>rfl)))) pa_nil)) (pe_cut (pe_ifExp (pt_cmpR op_eq (pv 6) pe_str (nomark _)) pe_int pe_int))) rfl)
     (pss_one (ps_expr (pe_bm0 PySem.F.plainAttrs_list PySem.F.slot_list_pop PySem.F.type_list_pop mt_pop (pv 4)))))
     (pss_one (ps_if (pt_cmp (pc_din (hu_of hr) (pv 5) (pv 3)))
      (pss_one (ps_ret pe_non))
      (pss_cons (ps_dput (hu_of hr) (pv 3) (pv 5) pe_bl rfl)
      (pss_one (ps_expr (pe_bm PySem.F.plainAttrs_list PySem.F.slot_list_extend PySem.F.type_list_extend mt_extend (pv 4) (pa_cons (pv 8) pa_nil))))))))))))))
   (pss_one (ps_ret (pv 2))))))),?_⟩
  try dsimp only [cxOf,Cx.nox]
  refine fun pq hpq=>fun pe hpe=>?_
  have nqe:pq≠pe:=fun z=>by rw [← z,upd_same] at hpe; cases hpe
  have hpe0:H pe = none:=(same_new hpq).free hpe
  have s0:Same H (upd (upd H pq (.dK [])) pe (.dK [])):=(same_new hpq).trans (same_new hpe)
  refine ⟨_,rfl,pr,_,rfl,.inl (SqL.of (s0 _ _ hpr)),fun pw hpw=>?_⟩
  have new:pe≠pw:=fun z=>by rw [← z,upd_same] at hpw; cases hpw
  have nqw:pq≠pw:=fun z=>by rw [← z,upd_ne nqe,upd_same] at hpw; cases hpw
  have hpw0:H pw = none:=s0.free hpw
  have ws0:WS H tb st R0 pq pe pw g Mi.wStart [] roots.reverse (upd (upd (upd H pq (.dK [])) pe (.dK [])) pw (.lst (il roots))):=by
   refine ⟨s0.trans (same_new hpw),⟨[],by rw [upd_ne nqw,upd_ne nqe,upd_same],fun i=>rfl,by simp only [List.length_nil]; omega⟩,⟨[],by rw [upd_ne new,upd_same],fun i=>rfl,by simp only [List.length_nil]; omega⟩,by rw [upd_same,List.reverse_reverse],hR0,by rw [List.length_reverse]; omega,by simp,fun e he=>by simp at he,fun x hx=>hrt x (List.mem_reverse.mp hx),by rw [List.length_reverse]; simp only [List.length_nil]; omega⟩
  refine ⟨fun mm σ H'=>∃ (x y z u:Option V) (W:Nat→Option Nat) (E l:List Nat),σ = [some (.ref na),some (.ref pr),some (.ref pq),some (.ref pe),some (.ref pw),x,y,z,u,none]∧WS H tb st R0 pq pe pw mm W E l H',⟨g,none,none,none,none,_,_,_,rfl,ws0⟩,?_⟩
  (intro mm σ H2 oi4; refine o7_2 oi4 fun x y z u W E l y5_7 ws=>?_; try clear oi4; subst y5_7)
  refine o1_3 ws.wq fun kq hkq hWR hkql=>?_
  refine o1_3 ws.en fun ke hke hER hkel=>?_
  refine ⟨_,rfl,Nat.zero_le _,fun q0 hq0=>?_⟩
  have sq:Same H2 (upd H2 q0 (.lst [])):=same_new hq0
  generalize eH3:upd H2 q0 (.lst []) = H3 at sq
  have hq3:H3 q0 = some (.lst []):=by rw [← eH3]; exact upd_same
  have s3:=ws.same.trans sq
  have hwt:=ws.wait
  rw [il_int] at hwt
  refine ⟨pw,q0,_,[],rfl,rfl,SqL.of (sq _ _ hwt),SqL.of hq3,_,rfl,?_⟩
  rw [il_nil]
  cases hl:l with
  | nil =>
   subst hl
   refine iteF ?_
   have hres:R0 = some W:=by
    rw [← ws.res]
    cases mm <;> rfl
   exact ⟨_,rfl,kS W hres H3 pq kq s3 (sq _ _ hkq) hWR⟩
  | cons i l' =>
   subst hl
   have hne:(!decide ((i :: l').reverse = [])) = true:=by simp
   rw [hne]
   refine iteT ?_
   have hfu:=ws.fuel
   have hbal:=ws.bal
   simp only [List.length_cons] at hfu hbal
   (refine o1_1 (show ∃ m',mm = m' + 1 from ⟨mm - 1,by omega⟩) fun m' y8_1=>?_; subst y8_1)
   have hi:=ws.sIn i (by simp)
   refine o1_2 (hNR.at_ i hi) fun n hn hC=>?_
   have hri:=hroot i hi
   refine o0_2 (parts_of hC hri) fun eP eO=>?_
   have hres:=ws.res
   simp only [Mi.wgh] at hres
   have hel:E.length≤tb.length:=Mi.nodup_len _ E ws.nd ws.eIn
   refine ⟨fun σ' H'=>∃ mm',mm' < m' + 1∧∃ (x y z u:Option V) (W:Nat→Option Nat) (E l:List Nat),σ' = [some (.ref na),some (.ref pr),some (.ref pq),some (.ref pe),some (.ref pw),x,y,z,u,none]∧WS H tb st R0 pq pe pw mm' W E l H',fun _ _ h=>h,?_⟩
   have hw3:H3 pw = some (.lst (il l'.reverse ++ [V.int (i:Int)])):=by
    rw [sq _ _ ws.wait]
    unfold il
    rw [List.reverse_cons,List.map_append]
    rfl
   have hkq3:=sq _ _ hkq
   have hke3:=sq _ _ hke
   refine o2_3 (nodes_at (hna.same s3) hn) fun nas a hna1 hat1 hnd1=>?_
   refine ⟨_,rfl,_,rfl,pw,_,_,_,rfl,rfl,SqL.of hw3,atI_last _ _,?_⟩
   refine ⟨_,rfl,_,rfl,na,_,_,_,rfl,rfl,SqL.of hna1,hat1,a,_,_,_,rfl,rfl,SqT.of hnd1,at_zero n,?_⟩
   refine ⟨fun v H'=>∃ p,v = .ref p∧Same H3 H'∧H' p = some (.tup (il (Rs.under (st.at_ i)))),?_,?_⟩
   ·refine ⟨_,rfl,aLe,_,rfl,.inr (T3.leaves H3),rfl,rfl,_,rfl,ite2 (fun h=>?_) (fun h=>?_)⟩
    ·rw [if_neg (by decide),in_leafS] at h
     rw [if_pos h] at eP
     refine ⟨Nat.zero_le _,fun p hp=>⟨p,rfl,same_new hp,?_⟩⟩
     rw [← eP]
     exact upd_same
    ·rw [if_neg (by decide),in_leafS] at h
     rw [if_neg h] at eP
     refine ⟨_,rfl,_,rfl,na,_,_,_,rfl,rfl,SqL.of hna1,hat1,_,rfl,a,_,rfl,SqT.of hnd1,notwhole n,fun p hp=>⟨p,rfl,same_new hp,?_⟩⟩
     rw [cut1,← eP]
     exact upd_same
   (intro _ H4 oi12; refine o1_3 oi12 fun pp y13_1 s34 hpp=>?_; try clear oi12; subst y13_1)
   have s4:=s3.trans s34
   have hkq4:=s34 _ _ hkq3
   have hke4:=s34 _ _ hke3
   have hw4:=s34 _ _ hw3
   generalize hU:Rs.under (st.at_ i) = U at hpp eP
   have hUl:U.length≤2:=by rw [← hU]; cases st.at_ i <;> simp [Rs.under]
   have hUin:∀ c ∈ U,c < tb.length:=fun c hc=>by
    rw [← hU,Mi.at_nd] at hc
    have:=hK _ (by rw [hNR.size]; exact hri) c hc
    rw [hNR.size] at this
    exact this
   have hlack:Mi.lack st W i = U.filter fun c=>(W c).isNone:=by unfold Mi.lack; rw [hU]
   have isn:∀ c:Nat,(!(valV kq (.inl (c:Int))).isSome) = (W c).isNone:=fun c=>by
    rw [hWR c]
    cases W c <;> rfl
   refine ⟨_,rfl,pp,rfl,⟨_,SqT.of hpp⟩,fun D hD=>?_⟩
   refine lc_tup (K:=K) (a:=pp) (xs:=il U) (fun j H'=>Same H4 H'∧H' D = some (.lst (il ((U.take j).filter fun c=>(W c).isNone)))) ⟨same_new hD,upd_same⟩ (fun j H' _ q=>SqT.of (q.1 _ _ hpp)) ?_ ?_
   ·(intro j y H5 hj oi14; refine o0_2 oi14 fun s45 hD5=>?_; try clear oi14)
    (refine o1_2 (map_at hj) fun c hc y16_2=>?_; subst y16_2)
    refine ⟨rfl,_,rfl,_,rfl,pq,_,rfl,DGet.k (k:=.inl (c:Int)) (s45 _ _ hkq4),_,rfl,?_⟩
    rw [isn c]
    refine ite2 (fun h=>⟨_,rfl,_,hD5,?_,Same.put s45 hD,?_⟩) (fun h=>⟨s45,?_⟩)
    ·unfold il
     rw [List.length_map]
     exact Nat.lt_of_le_of_lt (Nat.le_trans (List.length_filter_le _ _) (by rw [List.length_take]; omega:(U.take j).length≤2)) (by decide)
    ·rw [upd_same,take_snoc hc,List.filter_append,List.filter_cons,if_pos h,List.filter_nil]
     unfold il
     rw [List.map_append]
     rfl
    ·rw [hD5,take_snoc hc,List.filter_append,List.filter_cons,if_neg h,List.filter_nil,List.append_nil]
   (intro H5 oi17; refine o0_2 oi17 fun s45 hD5=>?_; try clear oi17)
   have hil:(il U).length = U.length:=by unfold il; rw [List.length_map]
   rw [hil,List.take_length,← hlack] at hD5
   have s5:=s4.trans s45
   have hD5':=hD5
   rw [il_int] at hD5'
   have hpp5:=s45 _ _ hpp
   have hkq5:=s45 _ _ hkq4
   have hke5:=s45 _ _ hke4
   have hw5:=s45 _ _ hw4
   refine ⟨_,rfl,Nat.zero_le _,fun q6 hq6=>⟨D,q6,_,[],rfl,rfl,SqL.of ((same_new hq6) _ _ hD5'),SqL.of upd_same,_,rfl,?_⟩⟩
   have s56:Same H5 (upd H5 q6 (.lst [])):=same_new hq6
   generalize upd H5 q6 (.lst []) = H6 at s56
   have s6:=s5.trans s56
   have hkq6:=s56 _ _ hkq5
   have hke6:=s56 _ _ hke5
   have hw6:=s56 _ _ hw5
   have hpp6:=s56 _ _ hpp5
   have hD6:=s56 _ _ hD5
   rw [il_nil]
   refine ite2 (fun h=>?_) (fun h=>?_)
   ·have hnil:Mi.lack st W i = []:=of_decide_eq_true h
    rw [if_pos hnil] at hres
    have hp:=Mi.lack_nil hnil
    rw [hU] at hp hres
    refine ⟨_,rfl,pp,rfl,⟨_,SqT.of hpp6⟩,fun D2 hD2=>?_⟩
    refine lc_tup (K:=K) (a:=pp) (xs:=il U) (fun j H'=>Same H6 H'∧H' D2 = some (.lst (((U.take j).map fun c=>(((W c).getD 0:Nat):Int)).map V.int))) ⟨same_new hD2,upd_same⟩ (fun j H' _ q=>SqT.of (q.1 _ _ hpp6)) ?_ ?_
    ·(intro j y H7 hj oi19; refine o0_2 oi19 fun s67 hD7=>?_; try clear oi19)
     (refine o1_2 (map_at hj) fun c hc y21_2=>?_; subst y21_2)
     refine o1_1 (hp c (List.mem_of_getElem? hc)) fun nc hnc=>?_
     have hv:valV kq (.inl (c:Int)) = some (.int ((nc:Nat):Int)):=by rw [hWR c,hnc]; rfl
     refine ⟨rfl,_,rfl,_,rfl,pq,_,rfl,.inl ⟨kq,.inl (c:Int),.inl (s67 _ _ hkq6),rfl,hv.symm⟩,_,hD7,?_,Same.put s67 hD2,?_⟩
     ·rw [List.length_map,List.length_map,List.length_take]
      exact Nat.lt_of_le_of_lt (Nat.le_trans (Nat.min_le_right _ _) hUl) (by decide)
     ·rw [upd_same,take_snoc hc,List.map_append,List.map_append]
      simp only [List.map_cons,List.map_nil,hnc,Option.getD_some]
    (intro H7 oi23; refine o0_2 oi23 fun s67 hD7=>?_; try clear oi23)
    rw [hil,List.take_length] at hD7
    have hsum:(U.map fun c=>(((W c).getD 0:Nat):Int)).sum = ((Mi.wSum W U:Nat):Int):=by
     unfold Mi.wSum
     clear hp hUl hUin hlack hres hnil hD7 hpp hpp5 hpp6 hil eP hU hD5 hD5' hD6
     induction U with
     | nil=>rfl
     | cons c U ih=>simp only [List.map_cons,List.sum_cons,ih]; omega
    refine ⟨D2,_,rfl,SqL.of hD7,fun v H'=>v = .int ((Mi.own (st.at_ i):Nat):Int)∧H7 = H',?_,?_⟩
    ·refine ⟨_,rfl,rfl,_,rfl,ite2 (fun h=>⟨?_,rfl⟩) (fun h=>⟨?_,rfl⟩)⟩
     ·have h':n.1 = none:=sgn_inj (V.str.inj (of_decide_eq_true h))
      rw [← eO,if_pos h']
      rfl
     ·have h':n.1≠none:=fun q=>h (decide_eq_true (by rw [q]; rfl))
      rw [← eO,if_neg h']
      rfl
    (intro _ _ oi25; refine o0_2 oi25 fun y26_0 y26_1=>?_; try clear oi25; subst y26_0; subst y26_1)
    have hkq7:=s67 _ _ hkq6
    have hke7:=s67 _ _ hke6
    have hw7:=s67 _ _ hw6
    have s7:=s6.trans s67
    refine ⟨_,_,rfl,rfl,_,rfl,_,rfl,pq,_,rfl,DPut.k (k:=.inl (i:Int)) hkq7 (Nat.lt_of_le_of_lt (show kq.length≤50000 by omega) (by decide)),?_⟩
    rw [hsum]
    have e9:(fun (i j:Int)=>V.int (i + j)) ((Mi.wSum W U:Nat):Int) ((Mi.own (st.at_ i):Nat):Int) = V.int ((Mi.wSum W U + Mi.own (st.at_ i):Nat):Int):=by
     show V.int (((Mi.wSum W U:Nat):Int) + ((Mi.own (st.at_ i):Nat):Int)) = _
     congr 1
    rw [e9]
    generalize eH8:upd H7 pq (.dK (putK kq (.inl (i:Int)) (.int ((Mi.wSum W U + Mi.own (st.at_ i):Nat):Int)))) = H8
    have hkq8:H8 pq = some (.dK (putK kq (.inl (i:Int)) (.int ((Mi.wSum W U + Mi.own (st.at_ i):Nat):Int)))):=by rw [← eH8]; exact upd_same
    have hw8:H8 pw = some (.lst (il l'.reverse ++ [V.int (i:Int)])):=by rw [← eH8,upd_ne (Ne.symm nqw)]; exact hw7
    have hke8:H8 pe = some (.dK ke):=by rw [← eH8,upd_ne (Ne.symm nqe)]; exact hke7
    have s8:Same H H8:=by rw [← eH8]; exact Same.put s7 hpq
    refine ⟨_,rfl,.inl ⟨rfl,_,SqL.of hw8⟩,pw,_,_,rfl,rfl,hw8,pop_last _ _,?_⟩
    rw [List.dropLast_concat]
    refine ⟨m',by omega,_,_,_,_,_,E,l',rfl,⟨Same.put s8 hpw0,⟨_,by rw [upd_ne nqw]; exact hkq8,hWR.put i _,?_⟩,⟨ke,by rw [upd_ne new]; exact hke8,hER,by omega⟩,upd_same,hres,by omega,ws.nd,ws.eIn,fun x hx=>ws.sIn x (by simp [hx]),by omega⟩⟩
    have:=length_putK kq (.inl (i:Int)) (V.int ((Mi.wSum W U + Mi.own (st.at_ i):Nat):Int))
    omega
   ·have hnil:Mi.lack st W i≠[]:=fun q=>h (decide_eq_true q)
    rw [if_neg hnil] at hres
    refine ⟨_,rfl,_,rfl,pe,_,rfl,DGet.k (k:=.inl (i:Int)) hke6,_,rfl,?_⟩
    rw [hER i]
    refine ite2 (fun h2=>?_) (fun h2=>?_)
    ·rw [if_pos (of_decide_eq_true h2)] at hres
     exact kN hres.symm H6 s6
    ·have h2':i ∉ E:=fun q=>h2 (decide_eq_true q)
     rw [if_neg h2'] at hres
     have hll:=Mi.lack_len st W i
     have hnd2:(E ++ [i]).Nodup:=by
      rw [List.nodup_append]
      refine ⟨ws.nd,by simp,fun a ha b hb=>?_⟩
      rw [List.mem_singleton.mp hb]
      exact fun z=>h2' (z ▸ ha)
     have hin2:∀ e ∈ E ++ [i],e < tb.length:=fun e he=>by
      rcases List.mem_append.mp he with he | he
      ·exact ws.eIn e he
      ·rw [List.mem_singleton.mp he]; exact hi
     have hel2:=Mi.nodup_len _ _ hnd2 hin2
     rw [List.length_append,List.length_cons,List.length_nil] at hel2
     refine ⟨_,rfl,_,rfl,pe,_,rfl,DPut.k (k:=.inl (i:Int)) hke6 (Nat.lt_of_le_of_lt (show ke.length≤50000 by omega) (by decide)),?_⟩
     generalize eH8:upd H6 pe (.dK (putK ke (.inl (i:Int)) (.bl true))) = H8
     have hke8:H8 pe = some (.dK (putK ke (.inl (i:Int)) (.bl true))):=by rw [← eH8]; exact upd_same
     have hw8:H8 pw = some (.lst (il l'.reverse ++ [V.int (i:Int)])):=by rw [← eH8,upd_ne (Ne.symm new)]; exact hw6
     have hkq8:H8 pq = some (.dK kq):=by rw [← eH8,upd_ne nqe]; exact hkq6
     have hD8:H8 D = some (.lst (il (Mi.lack st W i))):=by rw [← eH8,upd_ne (ne_of hD6 hke6 (by intro z; cases z))]; exact hD6
     have s8:Same H H8:=by rw [← eH8]; exact Same.put s6 hpe0
     refine ⟨_,rfl,.inl ⟨rfl,_,SqL.of hw8⟩,_,rfl,pw,D,_,_,rfl,rfl,hw8,hD8,?_,?_⟩
     ·unfold il
      simp only [List.length_append,List.length_map,List.length_reverse,List.length_cons,List.length_nil]
      exact Nat.le_trans (show l'.length + (0 + 1) + (Mi.lack st W i).length≤50003 by omega) (by decide)
     ·refine ⟨m',by omega,_,_,_,_,W,E ++ [i],(Mi.lack st W i).reverse ++ i :: l',rfl,⟨Same.put s8 hpw0,⟨kq,by rw [upd_ne nqw]; exact hkq8,hWR,by omega⟩,⟨_,by rw [upd_ne new]; exact hke8,hER.put i _,?_⟩,?_,hres,?_,hnd2,hin2,fun x hx=>?_,?_⟩⟩
      ·have:=length_putK ke (.inl (i:Int)) (V.bl true)
       omega
      ·rw [upd_same]
       unfold il
       simp only [List.reverse_append,List.reverse_reverse,List.reverse_cons,List.map_append,List.append_assoc]
       rfl
      ·simp only [List.length_append,List.length_reverse,List.length_cons]
       omega
      ·rcases List.mem_append.mp hx with hx | hx
       ·refine hUin x ?_
        rw [← hU]
        exact (Mi.lack_mem.mp (List.mem_reverse.mp hx)).1
       ·exact ws.sIn x hx
      ·simp only [List.length_append,List.length_reverse,List.length_cons,List.length_nil]
       omega
end
end Jd
namespace Jd
open PySem PySem.Spec PyProof.Rows L2 W1
open PySem.W (Codec)
structure Txt2 (mg:Str→Option Value):Prop where
 g_HEAVIEST:∃ t,mg "HEAVIEST" = some (.int 120 t)
 b_str:mg "str" = none
def spNamed:Sp:=fun vs H Q _=>∃ (l:Addr) (ts:List Mi.Tk),vs = [.ref l]∧ToksAt H l ts∧ts.length≤2000∧∀ (H':Hp) (p:Addr),Same H H'→ToksAt H' p (Mi.nmP Mi.o0 ts)→Q (.ref p) H'
def spTokB:Sp:=fun vs H Q _=>∃ (k:Mi.Sy) (z:Int),vs = [.str (nm k),.int z]∧Mi.goodK k = true∧0≤z∧z≤2000∧∀ (H':Hp) (p:Addr),Same H H'→H p = none→H' p = some (.lst ((Mi.tokB k z).map V.int))→Q (.ref p) H'
def spWritten:Sp:=fun vs H Q _=>∃ (l:Addr) (ts:List Mi.Tk),vs = [.ref l]∧ToksAt H l ts∧ts.length≤2000∧(∀ x ∈ ts,Mi.goodK x.1 = true∧0≤x.2.1∧x.2.1≤2000)∧∀ (H':Hp) (p:Addr),Same H H'→(Mi.wrP true ts).length≤200000→H' p = some (.lst ((Mi.wrP true ts).map V.int))→Q (.ref p) H'
theorem idx_le:∀ (l:List Int) (z:Int),Mi.idxZ l z≤l.length
 | [],_=>Nat.le_refl _
 | x :: l,z=>by
  have:=idx_le l z
  simp only [Mi.idxZ]
  split
  ·exact Nat.zero_le _
  ·simp only [List.length_cons]; omega
theorem add_len (l:List Int) (z:Int):(Mi.addZ l z).length≤l.length + 1:=by
 unfold Mi.addZ
 split
 ·omega
 ·simp
theorem nmP_le:∀ (ts:List Mi.Tk) (o:Mi.Sy→List Int) (m:Nat),(∀ k,(o k).length≤m)→∀ x ∈ Mi.nmP o ts,x.2.1≤((m + ts.length:Nat):Int)
 | [],_,_,_,x,h=>by simp [Mi.nmP] at h
 | y :: ts,o,m,ho,x,h=>by
  simp only [Mi.nmP,List.mem_cons] at h
  rcases h with rfl | h
  ·have h1:=idx_le (o y.1) y.2.1
   have h2:=ho y.1
   simp only [List.length_cons]
   omega
  ·have:=nmP_le ts (Mi.putO o y.1 y.2.1) (m + 1) (fun k=>by
    unfold Mi.putO
    split
    ·have:=add_len (o y.1) y.2.1
     have:=ho y.1
     omega
    ·have:=ho k
     omega) x h
   simp only [List.length_cons]
   omega
theorem nmP_good:∀ (ts:List Mi.Tk) (o:Mi.Sy→List Int),(∀ x ∈ ts,Mi.goodK x.1 = true)→∀ x ∈ Mi.nmP o ts,Mi.goodK x.1 = true∧0≤x.2.1
 | [],_,_,x,h=>by simp [Mi.nmP] at h
 | y :: ts,o,hk,x,h=>by
  simp only [Mi.nmP,List.mem_cons] at h
  rcases h with rfl | h
  ·exact ⟨hk y (by simp),by simp⟩
  ·exact nmP_good ts _ (fun z hz=>hk z (by simp [hz])) x h
theorem nmP_len:∀ (ts:List Mi.Tk) (o:Mi.Sy→List Int),(Mi.nmP o ts).length = ts.length
 | [],_=>rfl
 | y :: ts,o=>by simp only [Mi.nmP,List.length_cons,nmP_len ts]
theorem digs_len:∀ n,n < 100→(Mi.digs n).length≤2:=by decide +kernel
theorem tokB_len {k:Mi.Sy} {z:Int} (h1:z≤2000):(Mi.tokB k z).length≤10:=by
 unfold Mi.tokB
 split
 ·split
  ·simp
  ·have:=digs_len (z / 26).toNat (by omega)
   simp only [List.length_cons]
   omega
 ·split
  ·decide
  ·cases k <;> decide
def enumF:Nat→List Int→List (Key × V)
 | _,[]=>[]
 | i,z :: r=>(.inl z,.int (i:Int)) :: enumF (i + 1) r
theorem enum_len:∀ (i:Nat) (l:List Int),(enumF i l).length = l.length
 | _,[]=>rfl
 | i,z :: r=>by simp only [enumF,List.length_cons,enum_len]
theorem enum_some:∀ (i:Nat) (l:List Int) (z:Int),z ∈ l→valV (enumF i l) (.inl z) = some (.int ((i + Mi.idxZ l z:Nat):Int))
 | _,[],z,h=>by simp at h
 | i,x :: r,z,h=>by
  simp only [enumF,Mi.idxZ]
  by_cases e:x = z
  ·subst e
   rw [valV_pos rfl,if_pos rfl]
   rfl
  ·rw [valV_neg (fun q=>e (Sum.inl.inj q)),if_neg e,enum_some (i + 1) r z ((List.mem_cons.mp h).resolve_left fun q=>e q.symm)]
   congr 2
   omega
theorem enum_none:∀ (i:Nat) (l:List Int) (z:Int),z ∉ l→valV (enumF i l) (.inl z) = none
 | _,[],z,_=>rfl
 | i,x :: r,z,h=>by
  simp only [List.mem_cons,not_or] at h
  simp only [enumF]
  rw [valV_neg (fun q=>h.1 (Sum.inl.inj q).symm),enum_none (i + 1) r z h.2]
theorem enum_snoc:∀ (i:Nat) (l:List Int) (z:Int),enumF i (l ++ [z]) = enumF i l ++ [(.inl z,.int ((i + l.length:Nat):Int))]
 | i,[],z=>rfl
 | i,x :: r,z=>by
  simp only [List.cons_append,enumF,enum_snoc (i + 1) r z,List.length_cons]
  congr 5
  omega
structure Ord (H0 H:Hp) (o:Addr) (kvs:List (Key × V)) (O:Mi.Sy→List Int):Prop where
 at_:H o = some (.dK kvs)
 fo:H0 o = none
 no:∀ k,valV kvs (.inr (nm k)) = none→O k = []
 yes:∀ k v,valV kvs (.inr (nm k)) = some v→∃ d,v = .ref d∧d≠o∧H0 d = none∧H d = some (.dK (enumF 0 (O k)))
 inj:∀ k j d,valV kvs (.inr (nm k)) = some (.ref d)→valV kvs (.inr (nm j)) = some (.ref d)→k = j
theorem Ord.same {H0 H H':Hp} {o:Addr} {kvs:List (Key × V)} {O:Mi.Sy→List Int} (h:Ord H0 H o kvs O) (s:Same H H'):Ord H0 H' o kvs O :=
 ⟨s _ _ h.at_,h.fo,h.no,fun k v e=>let ⟨d,h1,h2,h3,h4⟩:=h.yes k v e; ⟨d,h1,h2,h3,s _ _ h4⟩,h.inj⟩
theorem val_nil {k:Key} {v:V} (h:valV ([]:List (Key × V)) k = some v):False:=by simp [valV] at h
theorem val_snoc {kvs:List (Key × V)} {k j:Key} {v:V} (h:valV kvs k = none):valV (kvs ++ [(k,v)]) j = if j = k then some v else valV kvs j:=by
 induction kvs with
 | nil =>
  by_cases e:j = k
  ·subst e; rw [if_pos rfl]; exact valV_pos rfl
  ·rw [if_neg e]; exact valV_neg (fun q=>e q.symm)
 | cons p r ih =>
  by_cases e:p.1 = j
  ·have e2:j≠k:=fun q=>by
    rw [valV_pos (e.trans q)] at h
    cases h
   rw [if_neg e2,List.cons_append,valV_pos e,valV_pos e]
  ·have h':valV r k = none:=by
    by_cases e3:p.1 = k
    ·rw [valV_pos e3] at h; cases h
    ·rw [valV_neg e3] at h; exact h
   rw [List.cons_append,valV_neg e,ih h',valV_neg e]
theorem Ord.new {H0 H:Hp} {o e:Addr} {kvs:List (Key × V)} {O:Mi.Sy→List Int} {k:Mi.Sy} (h:Ord H0 H o kvs O) (s:Same H0 H) (hn:valV kvs (.inr (nm k)) = none) (he:H e = none) :
  Ord H0 (upd (upd H e (.dK [])) o (.dK (putK kvs (.inr (nm k)) (.ref e)))) o (putK kvs (.inr (nm k)) (.ref e)) O∧valV (putK kvs (.inr (nm k)) (.ref e)) (.inr (nm k)) = some (.ref e):=by
 have neo:e≠o:=fun q=>by rw [q,h.at_] at he; cases he
 have ev:∀ j,valV (putK kvs (.inr (nm k)) (.ref e)) (.inr (nm j)) = if j = k then some (.ref e) else valV kvs (.inr (nm j)):=fun j=>by
  rw [putK_new _ hn,val_snoc hn]
  by_cases q:j = k
  ·rw [if_pos q,if_pos (by rw [q])]
  ·rw [if_neg q,if_neg (fun z=>q (nm_inj (Sum.inr.inj z)))]
 have old:∀ j d,valV kvs (.inr (nm j)) = some (.ref d)→d≠e:=fun j d q z=>by
  refine o1_4 (h.yes j _ q) fun d' h1 _ _ h4=>?_
  cases h1
  rw [z,he] at h4
  cases h4
 refine ⟨⟨upd_same,h.fo,fun j q=>?_,fun j v q=>?_,fun j i d q1 q2=>?_⟩,by rw [ev,if_pos rfl]⟩
 ·rw [ev] at q
  split at q
  ·cases q
  ·exact h.no j q
 ·rw [ev] at q
  split at q
  ·rename_i ej
   subst ej
   cases q
   refine ⟨e,rfl,neo,s.free he,?_⟩
   rw [upd_ne neo,upd_same,h.no j hn]
   rfl
  ·refine o1_4 (h.yes j v q) fun d h1 h2 h3 h4=>?_
   subst h1
   exact ⟨d,rfl,h2,h3,by rw [upd_ne h2,upd_ne (old j d q)]; exact h4⟩
 ·rw [ev] at q1 q2
  split at q1
  ·rename_i e1
   split at q2
   ·rename_i e2
    rw [e1,e2]
   ·cases q1
    exact absurd rfl (old i _ q2)
  ·split at q2
   ·cases q2
    exact absurd rfl (old j _ q1)
   ·exact h.inj j i d q1 q2
theorem Ord.put {H0 H:Hp} {o d:Addr} {kvs:List (Key × V)} {O:Mi.Sy→List Int} {k:Mi.Sy} {z:Int} (h:Ord H0 H o kvs O) (hd:valV kvs (.inr (nm k)) = some (.ref d)) (hz:z ∉ O k) :
  Ord H0 (upd H d (.dK (enumF 0 (O k ++ [z])))) o kvs (Mi.putO O k z):=by
 refine o1_4 (h.yes k _ hd) fun d' e hdo hd0 hdd=>?_
 cases e
 have ek:Mi.putO O k z k = O k ++ [z]:=by
  unfold Mi.putO Mi.addZ
  rw [if_pos rfl,if_neg hz]
 have ej:∀ j,j≠k→Mi.putO O k z j = O j:=fun j q=>by
  unfold Mi.putO
  rw [if_neg q]
 refine ⟨by rw [upd_ne (fun q=>hdo q.symm)]; exact h.at_,h.fo,fun j q=>?_,fun j v q=>?_,h.inj⟩
 ·rw [ej j (fun e=>by subst e; rw [hd] at q; cases q)]
  exact h.no j q
 ·refine o1_4 (h.yes j v q) fun c h1 h2 h3 h4=>?_
  subst h1
  by_cases e:j = k
  ·subst e
   rw [hd] at q
   cases q
   exact ⟨d,rfl,h2,h3,by rw [ek,upd_same]⟩
  ·have ncd:c≠d:=fun z=>e (h.inj j k d (by rw [← z]; exact q) hd)
   exact ⟨c,rfl,h2,h3,by rw [ej j e,upd_ne ncd]; exact h4⟩
theorem putO_in {O:Mi.Sy→List Int} {k:Mi.Sy} {z:Int} (h:z ∈ O k):Mi.putO O k z = O:=by
 funext j
 unfold Mi.putO Mi.addZ
 by_cases e:j = k
 ·subst e; rw [if_pos rfl,if_pos h]
 ·rw [if_neg e]
section
variable {P:Program} {w:World} {K:PySem.W.Frag} {mg:Str→Option Value} {base:Heap} {aB aF aE aS aV:Addr}
abbrev s_named_in_order:Stmt:=top 26
theorem sc_named_in_order:FnScope ["tokens","named","orders","kind","number","place","order"] ["tokens"] (defScope s_named_in_order):=⟨rfl,rfl,rfl,by decide +kernel,rfl,by decide +kernel,by decide +kernel⟩
theorem bi_named_in_order:Bi "named_in_order" s_named_in_order ["tokens"]:=fun _ _ _ _ _ _ us hl=>by (refine o1_1 (len1 hl) fun _ y5_1=>?_; subst y5_1); rfl
theorem ok_named_in_order (F:FnAt K mg "named_in_order" s_named_in_order) (T:Txt P w K mg aB aF aE aS aV):Own P w K mg base "named_in_order" 1 ["tokens"] spNamed:=by
 refine Own.of F sc_named_in_order bi_named_in_order (fun vs H Q E h=>?_) (fun f cdv A outer s H vs Q E hr h=>?_)
 ·(refine o2_2 h fun l ts y6_2 _=>?_; try clear h; subst y6_2)
  rfl
 ·(refine o2_4 h fun l ts y7_2 y7_3 hlen k=>?_; try clear h; subst y7_2; refine o1_2 y7_3 fun as ha1 ha2=>?_; try clear y7_3)
  refine ⟨_,(pss_cons (ps_set (i:=1) sc_named_in_order.nd rfl (Or.inl rfl) (pe_lst pa_nil))
   (pss_cons (ps_set (i:=2) sc_named_in_order.nd rfl (Or.inl rfl) pe_dnewK)
   (pss_cons (ps_for PassesOwn.never rfl (pi_list (pv 0)) (pg_tup rfl (pgs_cons (pg_name (i:=3) sc_named_in_order.nd rfl (Or.inl rfl)) (pgs_cons (pg_name (i:=4) sc_named_in_order.nd rfl (Or.inl rfl)) (pgs_cons (pg_name (i:=5) sc_named_in_order.nd rfl (Or.inl rfl)) pgs_nil))))
    (pss_cons (ps_set (i:=6) sc_named_in_order.nd rfl (Or.inl rfl) (pe_cut (pe_bm PySem.F.plainAttrs_dict PySem.F.slot_dict_setdefault PySem.F.type_dict_setdefault mt_setdef (pv 2) (pa_cons (pv 3) (pa_cons pe_dnewK pa_nil)))))
    (pss_one (ps_expr (pe_bm PySem.F.plainAttrs_list PySem.F.slot_list_append PySem.F.type_list_append mt_append (pv 1) (pa_cons (pe_tup (pa_cons (pv 3) (pa_cons (pe_cut (pe_bm PySem.F.plainAttrs_dict PySem.F.slot_dict_setdefault PySem.F.type_dict_setdefault mt_setdef (pv 6) (pa_cons (pv 4) (pa_cons (pe_callB call_lenD (by rfl) T.b_len bo_len (pa_cons (pv 6) pa_nil)) pa_nil)))) (pa_cons (pv 5) pa_nil)))) pa_nil))))))
   (pss_one (ps_ret (pv 1)))))),?_⟩
  try dsimp only [cxOf,Cx.nox]
  refine ⟨Nat.zero_le _,fun n hn o ho=>?_⟩
  have no:n≠o:=fun q=>by rw [← q,upd_same] at ho; cases ho
  have ho0:H o = none:=(same_new hn).free ho
  have s0:Same H (upd (upd H n (.lst [])) o (.dK [])):=Same.put (same_new hn) ho0
  refine ⟨_,rfl,l,rfl,⟨_,SqL.of (s0 _ _ ha1)⟩,for_list (K:=K) (a:=l) (xs:=as.map V.ref) (fun i σ H'=>∃ (x y z u:Option V) (bs:List Addr) (done:List Mi.Tk) (kvs:List (Key × V)) (O:Mi.Sy→List Int),σ = [some (.ref l),some (.ref n),some (.ref o),x,y,z,u]∧Same H H'∧H' n = some (.lst (bs.map V.ref))∧Paired (TkAt H') bs done ∧
   Ord H H' o kvs O∧(∀ k d,valV kvs (.inr (nm k)) = some (.ref d)→d≠n)∧done.length = i∧kvs.length≤i∧(∀ k,(O k).length≤i)∧Mi.nmP Mi.o0 ts = done ++ Mi.nmP O (ts.drop i))
   ⟨none,none,none,none,[],[],[],Mi.o0,rfl,s0,by rw [upd_ne no,upd_same]; rfl,.nil,⟨upd_same,ho0,fun _ _=>rfl,fun k v q=>(val_nil q).elim,fun k j d q=>(val_nil q).elim⟩,fun k d q=>(val_nil q).elim,rfl,Nat.le_refl _,fun _=>Nat.le_refl _,rfl⟩ (fun i σ H' _ ⟨_,_,_,_,_,_,_,_,_,s1,_⟩=>SqL.of (s1 _ _ ha1)) ?_ ?_⟩
  ·(intro i y σ H1 hi oi9; refine o8_10 oi9 fun x y' z u bs done kvs O y10_8 s1 hb1 hb2 hO hOn hdl hkl hOl hN=>?_; try clear oi9; subst y10_8)
   (refine o1_2 (map_at hi) fun c hc y11_2=>?_; subst y11_2)
   refine o1_2 (paired_get ha2 hc) fun tk htk hat=>?_
   have hi2:i < ts.length:=(List.getElem?_eq_some_iff.mp htk).1
   rw [Mi.drop_at htk] at hN
   simp only [Mi.nmP] at hN
   obtain ⟨kd,num,pl⟩:=tk
   refine ⟨c,_,rfl,SqT.of (s1 _ _ hat),rfl,_,_,rfl,_,_,rfl,_,_,rfl,rfl,?_⟩
   refine ⟨fun v H'=>∃ (d:Addr) (kvs':List (Key × V)),v = .ref d∧Same H H'∧H' n = some (.lst (bs.map V.ref))∧Paired (TkAt H') bs done∧Ord H H' o kvs' O∧(∀ k d,valV kvs' (.inr (nm k)) = some (.ref d)→d≠n)∧kvs'.length≤i + 1∧valV kvs' (.inr (nm kd)) = some (.ref d),?_,?_⟩
   ·refine ⟨_,rfl,.inr (.inr (.inl ⟨rfl,.inl ⟨_,hO.at_⟩⟩)),_,rfl,fun e he=>?_⟩
    have hOe:=hO.same (same_new (o:=.dK []) he)
    refine ⟨o,kvs,.inr (nm kd),.ref e,rfl,rfl,hOe.at_,Nat.lt_of_le_of_lt (Nat.le_trans hkl (Nat.le_of_lt hi2)) (Nat.lt_of_le_of_lt hlen (by decide)),fun v hv=>?_,fun hv=>?_⟩
    ·(refine o1_2 (hO.yes kd v hv) fun d y14_1 _=>?_; subst y14_1)
     exact ⟨d,kvs,rfl,s1.trans (same_new he),(same_new he) _ _ hb1,Paired.mapP hb2 fun b t q=>(same_new he) _ _ q,hOe,hOn,Nat.le_succ_of_le hkl,hv⟩
    ·refine o0_2 (Ord.new (k:=kd) hO s1 hv he) fun h1 h2=>?_
     have nen:n≠e:=ne_of_none hb1 he
     have nno:n≠o:=no
     have keep:∀ b t,TkAt H1 b t→TkAt (upd (upd H1 e (.dK [])) o (.dK (putK kvs (.inr (nm kd)) (.ref e)))) b t:=fun b t q=>by
      have n1:b≠o:=ne_of q hO.at_ (by intro z; cases z)
      have n2:b≠e:=ne_of_none q he
      show upd _ _ _ b = _
      rw [upd_ne n1,upd_ne n2]
      exact q
     refine ⟨e,_,rfl,Same.put (Same.put s1 (s1.free he)) hO.fo,?_,Paired.mapP hb2 keep,h1,fun j d q=>?_,?_,h2⟩
     ·rw [upd_ne nno,upd_ne nen]
      exact hb1
     ·rw [putK_new _ hv,val_snoc hv] at q
      split at q
      ·cases q
       exact fun z=>nen z.symm
      ·exact hOn j d q
     ·exact Nat.le_trans (length_putK _ _ _) (Nat.succ_le_succ hkl)
   (intro v H2 oi16; refine o2_8 oi16 fun d kvs' y17_2 s2 hb1 hb2 hO hOn hkl' hv=>?_; try clear oi16; subst y17_2)
   refine o1_4 (hO.yes kd _ hv) fun d' e hdo hd0 hdd=>?_
   cases e
   have ndn:d≠n:=hOn kd d hv
   refine ⟨_,rfl,.inl ⟨rfl,_,SqL.of hb1⟩,_,rfl,?_⟩
   refine ⟨fun v H'=>v = .int ((Mi.idxZ (O kd) num:Nat):Int)∧Same H H'∧H' n = some (.lst (bs.map V.ref))∧Paired (TkAt H') bs done∧Ord H H' o kvs' (Mi.putO O kd num),?_,?_⟩
   ·refine ⟨_,rfl,.inr (.inr (.inl ⟨rfl,.inl ⟨_,hdd⟩⟩)),_,rfl,_,rfl,d,_,rfl,hdd,?_⟩
    refine ⟨d,_,.inl num,_,rfl,rfl,hdd,?_,fun v hv2=>?_,fun hv2=>?_⟩
    ·rw [enum_len]
     exact Nat.lt_of_le_of_lt (Nat.le_trans (hOl kd) (Nat.le_of_lt hi2)) (Nat.lt_of_le_of_lt hlen (by decide))
    ·have hin:num ∈ O kd:=Classical.byContradiction fun q=>by rw [enum_none _ _ _ q] at hv2; cases hv2
     rw [enum_some _ _ _ hin,Nat.zero_add] at hv2
     cases hv2
     exact ⟨rfl,s2,hb1,hb2,by rw [putO_in hin]; exact hO⟩
    ·have hin:num ∉ O kd:=fun q=>by rw [enum_some _ _ _ q] at hv2; cases hv2
     have e1:putK (enumF 0 (O kd)) (.inl num) (.int ((enumF 0 (O kd)).length:Int)) = enumF 0 (O kd ++ [num]):=by
      rw [putK_new _ hv2,enum_snoc,enum_len,Nat.zero_add]
     rw [e1]
     have keep:∀ b t,TkAt H2 b t→TkAt (upd H2 d (.dK (enumF 0 (O kd ++ [num])))) b t:=fun b t q=>by
      have n1:b≠d:=ne_of q hdd (by intro z; cases z)
      show upd _ _ _ b = _
      rw [upd_ne n1]
      exact q
     refine ⟨?_,Same.put s2 hd0,by rw [upd_ne (fun z=>ndn z.symm)]; exact hb1,Paired.mapP hb2 keep,Ord.put hO hv hin⟩
     rw [enum_len,Mi.idx_none hin]
   (intro v H3 oi19; refine o0_5 oi19 fun y20_0 s3 hb1 hb2 hO3=>?_; try clear oi19; subst y20_0)
   refine ⟨_,rfl,(by show 3≤sizeLine; decide),fun q hq=>?_⟩
   have nnq:n≠q:=ne_of_none hb1 hq
   refine ⟨n,_,_,rfl,rfl,by rw [upd_ne nnq]; exact hb1,?_,?_⟩
   ·rw [List.length_map,Paired.length hb2,hdl]
    exact Nat.lt_of_lt_of_le hi2 (Nat.le_trans hlen (by decide))
   ·refine o1_2 (ToksAt.snoc (x:=(kd,((Mi.idxZ (O kd) num:Nat):Int),pl)) hb1 hb2 hq) fun bs' h1 h2=>?_
    have hn0:H n = none:=hn
    refine ⟨_,_,_,_,bs',done ++ [(kd,((Mi.idxZ (O kd) num:Nat):Int),pl)],kvs',Mi.putO O kd num,rfl,Same.put (Same.put s3 (s3.free hq)) hn0,h1,h2,?_,hOn,?_,hkl',fun j=>?_,?_⟩
    ·have hO4:=hO3.same (same_new (o:=.tup [.str (nm kd),.int ((Mi.idxZ (O kd) num:Nat):Int),.int (pl:Int)]) hq)
     refine ⟨by rw [upd_ne (fun z=>no z.symm)]; exact hO4.at_,hO4.fo,hO4.no,fun j v e=>?_,hO4.inj⟩
     refine o1_4 (hO4.yes j v e) fun c' g1 g2 g3 g4=>?_
     subst g1
     exact ⟨c',rfl,g2,g3,by rw [upd_ne (hOn j c' e)]; exact g4⟩
    ·rw [List.length_append,hdl]; rfl
    ·unfold Mi.putO
     split
     ·have:=add_len (O kd) num
      have:=hOl kd
      omega
     ·have:=hOl j
      omega
    ·rw [hN,List.append_assoc]
     rfl
  ·(intro σ H1 oi23; refine o8_10 oi23 fun x y z u bs done kvs O y24_8 s1 hb1 hb2 hO hOn hdl hkl hOl hN=>?_; try clear oi23; subst y24_8)
   rw [List.length_map,Paired.length ha2,List.drop_length] at hN
   simp only [Mi.nmP,List.append_nil] at hN
   refine ⟨_,rfl,k H1 n s1 ?_⟩
   rw [hN]
   exact ⟨bs,hb1,hb2⟩
theorem codes_all:∀ {k:Mi.Sy},Mi.goodK k = true→k≠.row→k≠.ty→codes (nm k) = Mi.tokB k 0:=by
 intro k h h1 h2
 cases k <;> first | exact absurd rfl h1 | exact absurd rfl h2 | exact absurd h (by decide) | decide +kernel
theorem tokB_no {k:Mi.Sy} {z:Int} (h1:k≠.row) (h2:k≠.ty):Mi.tokB k z = Mi.tokB k 0:=by
 have e:∀ z,Mi.tokB k z = if k = .bad then [66,65,68] else Mi.symBytes k:=fun z=>by
  unfold Mi.tokB
  rw [if_neg (fun q=>Or.elim q h1 h2)]
 rw [e,e]
theorem codes_str {i:Int} (h:0≤i):codes ((toString i:String):Str) = Mi.digs i.toNat:=by
 (refine o1_1 (show ∃ n:Nat,i = (n:Int) from ⟨i.toNat,by omega⟩) fun n y25_1=>?_; subst y25_1)
 unfold codes Mi.digs
 rw [Str.ofString_eq_toList]
 show (((toString (n:Int)).toList.map Char.toNat).toArray.toList).map _ = _
 have e:(toString (n:Int)) = toString n:=rfl
 rw [e]
 simp only [List.map_map,Int.toNat_natCast]
 have e2:(toString n).toList = Nat.toDigits 10 n:=by
  show (Nat.repr n).toList = _
  unfold Nat.repr
  simp
 rw [e2]
 rfl
abbrev s_token_bytes:Stmt:=top 28
theorem sc_token_bytes:FnScope ["kind","number","letter"] ["kind","number"] (defScope s_token_bytes):=⟨rfl,rfl,rfl,by decide +kernel,rfl,by decide +kernel,by decide +kernel⟩
theorem bi_token_bytes:Bi "token_bytes" s_token_bytes ["kind","number"]:=fun _ _ _ _ _ _ us hl=>by (refine o2_1 (len2 hl) fun _ _ y26_2=>?_; subst y26_2); rfl
theorem ok_token_bytes (F:FnAt K mg "token_bytes" s_token_bytes) (T:Txt P w K mg aB aF aE aS aV) (T2:Txt2 mg) (C_bytes_of:Own P w K mg base "bytes_of" 1 ["text"] spBytes) (C_first_letter:Own P w K mg base "first_letter" 1 ["kind"] spFirst):Own P w K mg base "token_bytes" 2 ["kind","number"] spTokB:=by
 refine Own.of F sc_token_bytes bi_token_bytes (fun vs H Q E h=>?_) (fun f cdv A outer s H vs Q E hr h=>?_)
 ·(refine o2_2 h fun k z y27_2 _=>?_; try clear h; subst y27_2)
  rfl
 ·(refine o2_5 h fun kd z y28_2 hg hz0 hz1 k=>?_; try clear h; subst y28_2)
  refine ⟨_,(pss_cons (ps_if (pt_cmpR op_notIn_seq (pv 0) (pe_gref (by rfl) T.g_VARIABLES) (by with_unfolding_all rfl))
    (pss_one (ps_ret (pe_own C_bytes_of (hr.mono (by decide)) (by rfl) (pa_cons (pv 0) pa_nil))))
    pss_nil)
   (pss_cons (ps_set (i:=2) sc_token_bytes.nd rfl (Or.inl rfl) (pe_lst (pa_cons (pe_op op_add (pe_own C_first_letter (hr.mono (by decide)) (by rfl) (pa_cons (pv 0) pa_nil)) (pe_op op_mod (pv 1) (pe_gint (by rfl) T.g_LETTERS))) pa_nil)))
   (pss_cons (ps_if (pt_cmpR op_lt (pv 1) (pe_gint (by rfl) T.g_LETTERS) (nomark _))
    (pss_one (ps_ret (pv 2)))
    pss_nil)
   (pss_one (ps_ret (pe_op op_cat (pv 2) (pe_own C_bytes_of (hr.mono (by decide)) (by rfl) (pa_cons (pe_callTy call_str_int (by rfl) T2.b_str bo_str (pa_cons (pe_op op_fdiv (pv 1) (pe_gint (by rfl) T.g_LETTERS)) pa_nil)) pa_nil)))))))),?_⟩
  try dsimp only [cxOf,Cx.nox]
  refine ⟨_,rfl,aV,_,rfl,.inr (T.vars H),rfl,rfl,_,rfl,ite2 (fun h=>?_) (fun h=>?_)⟩
  ·have hz:¬ (kd = .row∨kd = .ty):=by
    rw [if_pos rfl,in_vars] at h
    simpa using h
   have h1:kd≠.row:=fun q=>hz (.inl q)
   have h2:kd≠.ty:=fun q=>hz (.inr q)
   refine ⟨_,rfl,nm kd,rfl,Nat.le_trans (len_nm kd) (by decide),fun H1 p s1 hp h3=>k H1 p s1 hp ?_⟩
   rw [h3,codes_all hg h1 h2,tokB_no (z:=z) h1 h2]
  ·have hv:kd = .row∨kd = .ty:=by
    rw [if_pos rfl,in_vars] at h
    exact Classical.byContradiction fun q=>h (by rw [decide_eq_false q]; rfl)
   have eB:Mi.tokB kd z = (Mi.first kd + z % 26) :: (if z < 26 then [] else Mi.digs (z / 26).toNat):=by
    unfold Mi.tokB
    rw [if_pos hv]
   refine ⟨_,rfl,kd,rfl,_,rfl,_,_,rfl,rfl,(by show (0:Int) < 26; decide),_,_,rfl,rfl,(by show 1≤sizeLine; decide),fun p hp=>?_⟩
   generalize eH:upd H p (.lst [V.int (Mi.first kd + z % 26)]) = H1
   have s1:Same H H1:=by rw [← eH]; exact same_new hp
   have hp1:H1 p = some (.lst [V.int (Mi.first kd + z % 26)]):=by rw [← eH]; exact upd_same
   refine ⟨_,rfl,_,_,rfl,rfl,_,rfl,ite2 (fun h=>?_) (fun h=>?_)⟩
   ·have h':z < 26:=of_decide_eq_true h
    rw [if_pos h'] at eB
    refine ⟨_,rfl,k H1 p s1 hp ?_⟩
    rw [hp1,eB]
    rfl
   ·have h':¬ z < 26:=fun q=>h (decide_eq_true q)
    rw [if_neg h'] at eB
    have hq0:0≤z / 26:=by omega
    have hq1:z / 26 < 100:=by omega
    have hd:=digs_len (z / 26).toNat (by omega)
    refine ⟨_,rfl,_,rfl,_,_,rfl,rfl,⟨by decide,by decide⟩,_,rfl,?_,_,rfl,?_,fun H2 q s2 hq h2=>?_⟩
    ·have:(z / 26).natAbs < 2 ^ 100:=Nat.lt_of_lt_of_le (by omega:(z / 26).natAbs < 100) (by decide)
     exact Nat.lt_of_le_of_lt (Nat.log2_le_self _) (by omega)
    ·rw [← codes_len,codes_str hq0]
     omega
    ·rw [codes_str hq0] at h2
     refine ⟨p,q,_,_,rfl,rfl,s2 _ _ hp1,h2,?_,fun g hg=>?_⟩
     ·simp only [List.length_map,List.length_cons,List.length_nil]
      exact Nat.le_trans (Nat.add_le_add_left hd _) (by decide)
     ·refine k _ g ((s1.trans s2).trans (same_new hg)) ((s1.trans s2).free hg) ?_
      rw [upd_same,eB]
      rfl
def bstr:Option Mi.Sy→Str
 | none=>""
 | some k=>nm k
def bflag:Option Mi.Sy→Bool
 | none=>true
 | some k=>Mi.opnS k
theorem in_open:∀ b:Option Mi.Sy,inV (.str (bstr b)) [.str "",.str "(",.str "[",.str ","] = bflag b:=by
 intro b
 cases b with
 | none=>decide +kernel
 | some k=>cases k <;> decide +kernel
theorem in_tight (k:Mi.Sy):inV (.str (nm k)) [.str "(",.str ")",.str "]",.str ","] = Mi.tightS k:=by
 cases k <;> decide +kernel
abbrev s_written:Stmt:=top 27
theorem sc_written:FnScope ["tokens","text","before","kind","number","place"] ["tokens"] (defScope s_written):=⟨rfl,rfl,rfl,by decide +kernel,rfl,by decide +kernel,by decide +kernel⟩
theorem bi_written:Bi "written" s_written ["tokens"]:=fun _ _ _ _ _ _ us hl=>by (refine o1_1 (len1 hl) fun _ y29_1=>?_; subst y29_1); rfl
theorem ok_written (F:FnAt K mg "written" s_written) (T:Txt P w K mg aB aF aE aS aV) (C_token_bytes:Own P w K mg base "token_bytes" 2 ["kind","number"] spTokB):Own P w K mg base "written" 3 ["tokens"] spWritten:=by
 refine Own.of F sc_written bi_written (fun vs H Q E h=>?_) (fun f cdv A outer s H vs Q E hr h=>?_)
 ·(refine o2_2 h fun l ts y30_2 _=>?_; try clear h; subst y30_2)
  rfl
 ·(refine o2_5 h fun l ts y31_2 y31_3 hlen hgood k=>?_; try clear h; subst y31_2; refine o1_2 y31_3 fun as ha1 ha2=>?_; try clear y31_3)
  refine ⟨_,(pss_cons (ps_set (i:=1) sc_written.nd rfl (Or.inl rfl) (pe_lst pa_nil))
   (pss_cons (ps_set (i:=2) sc_written.nd rfl (Or.inl rfl) pe_str)
   (pss_cons (ps_for PassesOwn.never rfl (pi_list (pv 0)) (pg_tup rfl (pgs_cons (pg_name (i:=3) sc_written.nd rfl (Or.inl rfl)) (pgs_cons (pg_name (i:=4) sc_written.nd rfl (Or.inl rfl)) (pgs_cons (pg_name (i:=5) sc_written.nd rfl (Or.inl rfl)) pgs_nil))))
    (pss_cons (ps_cut (ps_if (pt_cut (pw_and (pt_cmpR op_notIn_seq (pv 2) (pe_tup (pa_cons pe_str (pa_cons pe_str (pa_cons pe_str (pa_cons pe_str pa_nil))))) (by with_unfolding_all rfl)) (pw_and1 (pt_cmpR op_notIn_seq (pv 3) (pe_tup (pa_cons pe_str (pa_cons pe_str (pa_cons pe_str (pa_cons pe_str pa_nil))))) (by with_unfolding_all rfl)))).pt)
     (pss_one (ps_expr (pe_bm PySem.F.plainAttrs_list PySem.F.slot_list_append PySem.F.type_list_append mt_append (pv 1) (pa_cons pe_int pa_nil))))
     pss_nil))
    (pss_cons (ps_expr (pe_bm PySem.F.plainAttrs_list PySem.F.slot_list_extend PySem.F.type_list_extend mt_extend (pv 1) (pa_cons (pe_own C_token_bytes (hr.mono (by decide)) (by rfl) (pa_cons (pv 3) (pa_cons (pv 4) pa_nil))) pa_nil)))
    (pss_one (ps_set (i:=2) sc_written.nd rfl (Or.inl rfl) (pv 3))))))
   (pss_one (ps_ret (pv 1)))))),?_⟩
  try dsimp only [cxOf,Cx.nox]
  refine ⟨Nat.zero_le _,fun x hx=>?_⟩
  have s0:Same H (upd H x (.lst [])):=same_new hx
  refine ⟨_,rfl,l,rfl,⟨_,SqL.of (s0 _ _ ha1)⟩,for_list (K:=K) (a:=l) (xs:=as.map V.ref) (fun i σ H'=>∃ (y z u:Option V) (bf:Option Mi.Sy) (acc:List Int),σ = [some (.ref l),some (.ref x),some (.str (bstr bf)),y,z,u]∧Same H H'∧H' x = some (.lst (acc.map V.int))∧acc.length≤11 * i∧Mi.wrP true ts = acc ++ Mi.wrP (bflag bf) (ts.drop i))
   ⟨none,none,none,none,[],rfl,s0,upd_same,Nat.le_refl _,rfl⟩ (fun i σ H' _ ⟨_,_,_,_,_,_,s1,_⟩=>SqL.of (s1 _ _ ha1)) ?_ ?_⟩
  ·(intro i y σ H1 hi oi33; refine o5_5 oi33 fun y' z u bf acc y34_5 s1 hx1 hal hW=>?_; try clear oi33; subst y34_5)
   (refine o1_2 (map_at hi) fun c hc y35_2=>?_; subst y35_2)
   refine o1_2 (paired_get ha2 hc) fun tk htk hat=>?_
   have hi2:i < ts.length:=(List.getElem?_eq_some_iff.mp htk).1
   rw [Mi.drop_at htk] at hW
   simp only [Mi.wrP] at hW
   obtain ⟨kd,num,pl⟩:=tk
   refine o0_3 (show Mi.goodK kd = true∧0≤num∧num≤2000 from hgood _ (List.mem_of_getElem? htk)) fun hg hz0 hz1=>?_
   refine ⟨c,_,rfl,SqT.of (s1 _ _ hat),rfl,_,_,rfl,_,_,rfl,_,_,rfl,rfl,?_⟩
   refine ⟨fun σ' H'=>∃ acc2:List Int,σ' = [some (.ref l),some (.ref x),some (.str (bstr bf)),some (.str (nm kd)),some (.int num),some (.int (pl:Int))]∧Same H H'∧H' x = some (.lst (acc2.map V.int))∧acc2 = acc ++ (if bflag bf = false∧Mi.tightS kd = false then [32] else []),?_,?_⟩
   ·refine ⟨fun b H'=>Same H1 H'∧b = (!bflag bf && !Mi.tightS kd),?_,?_⟩
    ·refine ⟨_,rfl,by decide,fun p hp=>⟨p,_,rfl,.inr (SqT.of upd_same),rfl,rfl,_,rfl,ite2 (fun h=>?_) (fun h=>⟨same_new hp,?_⟩)⟩⟩
     ·refine ⟨_,rfl,by decide,fun q hq=>⟨q,_,rfl,.inr (SqT.of upd_same),rfl,rfl,_,rfl,(same_new hp).trans (same_new hq),?_⟩⟩
      have h':(!bflag bf) = true:=by rw [← in_open]; exact h
      rw [h',Bool.true_and,← in_tight]
      rfl
     ·have h':(!bflag bf) = false:=by
       rw [← in_open]
       simpa using h
      rw [h',Bool.false_and]
    (intro _ H2 oi39; refine o0_2 oi39 fun s2 y40_1=>?_; try clear oi39; subst y40_1)
    refine ite2 (fun h=>?_) (fun h=>?_)
    ·have hx2:=s2 _ _ hx1
     refine ⟨_,rfl,.inl ⟨rfl,_,SqL.of hx2⟩,x,_,_,rfl,rfl,hx2,?_,acc ++ [32],rfl,Same.put (s1.trans s2) hx,?_,?_⟩
     ·rw [List.length_map]
      have:11 * i≤11 * 2000:=Nat.mul_le_mul_left _ (Nat.le_trans (Nat.le_of_lt hi2) hlen)
      exact Nat.lt_of_le_of_lt (Nat.le_trans hal this) (by decide)
     ·rw [upd_same,List.map_append]
      rfl
     ·rw [if_pos (by simpa using h)]
    ·refine ⟨acc,rfl,s1.trans s2,s2 _ _ hx1,?_⟩
     rw [if_neg (by simpa using h),List.append_nil]
   (intro _ H2 oi41; refine o1_4 oi41 fun acc2 y42_1 s2 hx2 hacc=>?_; try clear oi41; subst y42_1)
   have hal2:acc2.length≤acc.length + 1:=by
    rw [hacc,List.length_append]
    split <;> simp
   have hi3:11 * i≤11 * 2000:=Nat.mul_le_mul_left _ (Nat.le_trans (Nat.le_of_lt hi2) hlen)
   have htb:=tokB_len (k:=kd) hz1
   refine ⟨_,rfl,.inl ⟨rfl,_,SqL.of hx2⟩,_,rfl,_,rfl,kd,num,rfl,hg,hz0,hz1,fun H3 p s3 hp h3=>?_⟩
   refine ⟨x,p,_,_,rfl,rfl,s3 _ _ hx2,h3,?_,?_⟩
   ·simp only [List.length_map]
    exact Nat.le_trans (show acc2.length + (Mi.tokB kd num).length≤30000 by omega) (by decide)
   ·refine ⟨_,rfl,_,_,_,some kd,acc2 ++ Mi.tokB kd num,rfl,Same.put (s2.trans s3) hx,?_,?_,?_⟩
    ·rw [upd_same,List.map_append]
    ·rw [List.length_append]
     omega
    ·rw [hW,hacc,List.append_assoc,List.append_assoc]
     rfl
  ·(intro σ H1 oi43; refine o5_5 oi43 fun y z u bf acc y44_5 s1 hx1 hal hW=>?_; try clear oi43; subst y44_5)
   rw [List.length_map,Paired.length ha2,List.drop_length] at hW
   rw [List.length_map,Paired.length ha2] at hal
   simp only [Mi.wrP,List.append_nil] at hW
   refine ⟨_,rfl,k H1 x s1 ?_ ?_⟩
   ·rw [hW]
    omega
   ·rw [hW]
    exact hx1
end
end Jd
namespace Jd
open PySem PySem.Spec PyProof.Rows L2 W1
open PySem.W (Codec)
def dC:Mi.Pc→PyData
 | .s k=>.str (nm k)
 | .n i=>.int (i:Int)
theorem dC_lay:∀ l:List Mi.Pc,PyData.canLayAll0 (l.map dC) = true
 | []=>rfl
 | p :: l=>by
  rw [List.map_cons,PyData.canLayAll0,dC_lay l,Bool.and_true]
  cases p with
  | s k=>show PyData.canLay0 (.str (nm k)) = true; rw [PyData.canLay0]; exact nm_ok k
  | n i=>rfl
theorem dC_dep:∀ l:List Mi.Pc,PyData.depthAll (l.map dC) = 0
 | []=>rfl
 | p :: l=>by
  rw [List.map_cons,PyData.depthAll,dC_dep l]
  cases p <;> rfl
theorem dC_shp (l:List Mi.Pc):SeqAt.shaped (.list (l.map dC)) = true:=by
 unfold SeqAt.shaped
 rw [PyData.canLay0,dC_lay,PyData.depth,dC_dep]
 rfl
theorem dC_dp {K:PySem.W.Frag} {H:Hp}:∀ l:List Mi.Pc,DpAll K H (l.map pcV) (l.map dC)
 | []=>.nil
 | p :: l=>by
  refine .cons ?_ (dC_dp l)
  cases p with
  | s k=>exact .str _
  | n i=>exact .int _
theorem dC_nil (l:List Mi.Pc):PyData.eqv (.list (l.map dC)) (.list []) = l.isEmpty:=by
 cases l <;> rfl
theorem spell_el {tb:List Mi.Nk} {i:Nat} {n:Mi.Nk} {l:List V} (h:Mi.NkOk tb i n) (hl:spellK n.1 = some l):l.length = ((Mi.spell n).map pcV).length∧l.length≤6 ∧
  (∀ (j:Nat) (v:V),l[j]? = some v→((∃ x,v = V.str x)∧((Mi.spell n).map pcV)[j]? = some v)∨∃ z y,v = V.int z∧atI ((keyOf n).map kV) z = some y∧((Mi.spell n).map pcV)[j]? = some y)∧∀ k,Mi.Pc.n k ∈ Mi.spell n→k < i:=by
 rw [keyOf_kV]
 cases h <;> simp only [spellK,Option.some.injEq,reduceCtorEq] at hl
 case list a h1 h2 =>
  subst hl
  refine ⟨rfl,by decide,fun j v hj=>?_,fun k hk=>?_⟩
  ·match j,hj with
   | 0,hj=>cases hj; exact .inl ⟨⟨_,rfl⟩,rfl⟩
   | 1,hj=>cases hj; exact .inl ⟨⟨_,rfl⟩,rfl⟩
   | 2,hj=>cases hj; exact .inr ⟨1,_,rfl,at_of (j:=1) rfl rfl,rfl⟩
   | 3,hj=>cases hj; exact .inl ⟨⟨_,rfl⟩,rfl⟩
   | j + 4,hj=>simp at hj
  ·simp [Mi.spell,Mi.spS] at hk
   omega
 case pair a b h1 h2 h3 h4 =>
  subst hl
  refine ⟨rfl,by decide,fun j v hj=>?_,fun k hk=>?_⟩
  ·match j,hj with
   | 0,hj=>cases hj; exact .inl ⟨⟨_,rfl⟩,rfl⟩
   | 1,hj=>cases hj; exact .inl ⟨⟨_,rfl⟩,rfl⟩
   | 2,hj=>cases hj; exact .inr ⟨1,_,rfl,at_of (j:=1) rfl rfl,rfl⟩
   | 3,hj=>cases hj; exact .inl ⟨⟨_,rfl⟩,rfl⟩
   | 4,hj=>cases hj; exact .inr ⟨2,_,rfl,at_of (j:=2) rfl rfl,rfl⟩
   | 5,hj=>cases hj; exact .inl ⟨⟨_,rfl⟩,rfl⟩
   | j + 6,hj=>simp at hj
  ·simp [Mi.spell,Mi.spS] at hk
   omega
 case ob a b h1 h2 h3 h4 =>
  subst hl
  refine ⟨rfl,by decide,fun j v hj=>?_,fun k hk=>?_⟩
  ·match j,hj with
   | 0,hj=>cases hj; exact .inl ⟨⟨_,rfl⟩,rfl⟩
   | 1,hj=>cases hj; exact .inr ⟨1,_,rfl,at_of (j:=1) rfl rfl,rfl⟩
   | 2,hj=>cases hj; exact .inl ⟨⟨_,rfl⟩,rfl⟩
   | 3,hj=>cases hj; exact .inr ⟨2,_,rfl,at_of (j:=2) rfl rfl,rfl⟩
   | 4,hj=>cases hj; exact .inl ⟨⟨_,rfl⟩,rfl⟩
   | j + 5,hj=>simp at hj
  ·simp [Mi.spell,Mi.spS] at hk
   omega
 case snoc a b h1 h2 h3 h4 =>
  subst hl
  refine ⟨rfl,by decide,fun j v hj=>?_,fun k hk=>?_⟩
  ·match j,hj with
   | 0,hj=>cases hj; exact .inr ⟨1,_,rfl,at_of (j:=1) rfl rfl,rfl⟩
   | 1,hj=>cases hj; exact .inr ⟨2,_,rfl,at_of (j:=2) rfl rfl,rfl⟩
   | j + 2,hj=>simp at hj
  ·simp [Mi.spell,Mi.spS] at hk
   omega
theorem at_one {k:Mi.Sy} {z:Int}:atI ((keyOf (some k,[z])).map kV) 1 = some (V.int z):=by
 rw [keyOf_kV]
 exact at_of (j:=1) rfl rfl
structure SS (H:Hp) (tb:List Mi.Nk) (s:Rs.Store) (ts0:List Mi.Tk) (pt pw:Addr) (m:Nat) (st:List Mi.Pc) (ts done:List Mi.Tk) (H':Hp):Prop where
 same:Same H H'
 toks:∃ bs:List Addr,H' pt = some (.lst (bs.map V.ref))∧Paired (TkAt H') bs done
 wait:H' pw = some (.lst (st.reverse.map pcV))
 stp:Mi.StP s tb st ts m
 all:ts0 = done ++ ts
 le:done.length + m≤5000
 in_:∀ i,Mi.Pc.n i ∈ st→i < tb.length
def spSpell:Sp:=fun vs H Q _=>∃ (na pp:Addr) (ps:List Mi.Pc) (ts:List Mi.Tk) (m:Nat) (tb:List Mi.Nk) (s:Rs.Store),vs = [.ref na,.ref pp]∧NodesAt H na (resN s tb)∧H pp = some (.lst (ps.map pcV))∧Mi.TbOk tb∧Mi.StP s tb ps ts m∧m≤5000∧(∀ i,Mi.Pc.n i ∈ ps→i < tb.length)∧(∀ i,i < tb.length→s.root i < tb.length) ∧
 ∀ (H':Hp) (p:Addr),Same H H'→ToksAt H' p ts→Q (.ref p) H'
section
variable {P:Program} {w:World} {K:PySem.W.Frag} {mg:Str→Option Value} {base:Heap} {aB aF aE aS aV aLe aHE aIE aPa:Addr}
abbrev s_spelled:Stmt:=top 36
theorem sc_spelled:FnScope ["nodes","pieces","tokens","waiting","piece","node","parts","part"] ["nodes","pieces"] (defScope s_spelled):=⟨rfl,rfl,rfl,by decide +kernel,rfl,by decide +kernel,by decide +kernel⟩
theorem bi_spelled:Bi "spelled" s_spelled ["nodes","pieces"]:=fun _ _ _ _ _ _ us hl=>by (refine o2_1 (len2 hl) fun _ _ y1_2=>?_; subst y1_2); rfl
theorem ok_spelled (F:FnAt K mg "spelled" s_spelled) (T:Txt P w K mg aB aF aE aS aV) (T2:Txt2 mg) (T3:Txt3 P w K mg aLe aHE aIE aPa) (T4:Txt4 mg):Own P w K mg base "spelled" 1 ["nodes","pieces"] spSpell:=by
 refine Own.of F sc_spelled bi_spelled (fun vs H Q E h=>?_) (fun f cdv A outer s H vs Q E hr h=>?_)
 ·(refine o7_2 h fun na pp ps ts m tb st y2_7 _=>?_; try clear h; subst y2_7)
  rfl
 ·(refine o7_9 h fun na pp ps ts0 m tb st y3_7 hna hpp hT hst hm hin hroot k=>?_; try clear h; subst y3_7)
  refine o1_2 T3.spelled fun mp hmp hsp=>?_
  refine ⟨_,(pss_cons (ps_set (i:=2) sc_spelled.nd rfl (Or.inl rfl) (pe_lst pa_nil))
   (pss_cons (ps_set (i:=3) sc_spelled.nd rfl (Or.inl rfl) (pe_listrev rfl (by rfl) T.b_list (by rfl) T4.b_reversed (pa_cons (pv 1) pa_nil)))
   (pss_cons (ps_while PassesOwn.never (pt_cmpR (op_neD hr.units) (pv 3) (pe_lst pa_nil) (nomark _))
    (pss_cons (ps_set (i:=4) sc_spelled.nd rfl (Or.inl rfl) (pe_bm0 PySem.F.plainAttrs_list PySem.F.slot_list_pop PySem.F.type_list_pop mt_pop (pv 3)))
    (pss_one (ps_if (pt_val (pe_callB call_isiStr (by rfl) T4.b_isinstance bo_isinstance (pa_cons (pv 4) (pa_cons (pe_bltn (v:=V.ty "str") (by rfl) T2.b_str bo_str rfl) pa_nil))))
     (pss_one (ps_expr (pe_bm PySem.F.plainAttrs_list PySem.F.slot_list_append PySem.F.type_list_append mt_append (pv 2) (pa_cons (pe_tup (pa_cons (pv 4) (pa_cons pe_int (pa_cons pe_int pa_nil)))) pa_nil))))
     (pss_one (ps_if (pt_cmpR op_in_seq (pe_ix ix_tup (pe_ix ix_list (pv 0) (pv 4) (fun _ _=>rfl)) pe_int (fun _ _=>rfl)) (pe_gref (by rfl) T3.g_LEAVES) (by with_unfolding_all rfl))
      (pss_one (ps_expr (pe_bm PySem.F.plainAttrs_list PySem.F.slot_list_append PySem.F.type_list_append mt_append (pv 2) (pa_cons (pe_tup (pa_cons (pe_ix ix_tup (pe_ix ix_list (pv 0) (pv 4) (fun _ _=>rfl)) pe_int (fun _ _=>rfl)) (pa_cons (pe_ix ix_tup (pe_ix ix_list (pv 0) (pv 4) (fun _ _=>rfl)) pe_int (fun _ _=>rfl)) (pa_cons pe_int pa_nil)))) pa_nil))))
      (pss_cons (ps_set (i:=5) sc_spelled.nd rfl (Or.inr rfl) (pe_ix ix_list (pv 0) (pv 4) (fun _ _=>rfl)))
      (pss_cons (ps_setLc (i:=6) (own:=[("part",7)]) rfl sc_spelled.nd rfl rfl rfl (pi_tup (pe_kget (pe_gref (by rfl) T3.g_SPELLED) (pe_ix ix_tup (pv 5) pe_int (fun _ _=>rfl)) (fun _ _=>rfl))) (blkOk_by (by show blkC ["nodes","pieces","tokens","waiting","piece","node","parts","part"] (defScope s_spelled) _ _ = true; decide +kernel)) (fun _ _ _ _ _=>(pg_name (i:=7) sc_spelled.nd rfl (Or.inl rfl))) (fun _ _ _ _ _=>pts_nil) (fun _ _ _ _ _=>(pe_cut (pe_ifExp (pt_val (pe_callB call_isiStr (by rfl) T4.b_isinstance bo_isinstance (pa_cons (pv 7) (pa_cons (pe_bltn (v:=V.ty "str") (by rfl) T2.b_str bo_str rfl) pa_nil)))) (pv 7) (pe_ix (ix_tupK (K:=K) rfl) (pv 5) (pv 7) (fun _ _=>rfl))))))
      (pss_one (ps_expr (pe_bm PySem.F.plainAttrs_list PySem.F.slot_list_extend PySem.F.type_list_extend mt_extend (pv 3) (pa_cons (pe_listrev rfl (by rfl) T.b_list (by rfl) T4.b_reversed (pa_cons (pv 6) pa_nil)) pa_nil))))))))))))
   (pss_one (ps_ret (pv 2)))))),?_⟩
  try dsimp only [cxOf,Cx.nox]
  refine ⟨Nat.zero_le _,fun pt hpt=>?_⟩
  have s0:Same H (upd H pt (.lst [])):=same_new hpt
  have hpl:ps.length≤5000:=Nat.le_trans hst.len hm
  refine ⟨_,rfl,pp,_,rfl,SqL.of (s0 _ _ hpp),by rw [List.length_map]; exact Nat.le_trans hpl (by decide),fun pw hpw=>?_⟩
  have ntw:pt≠pw:=fun z=>by rw [← z,upd_same] at hpw; cases hpw
  have hpw0:H pw = none:=s0.free hpw
  have ss0:SS H tb st ts0 pt pw m ps ts0 [] (upd (upd H pt (.lst [])) pw (.lst (ps.map pcV).reverse)):=⟨s0.trans (same_new hpw),⟨[],by rw [upd_ne ntw,upd_same]; rfl,.nil⟩,by rw [upd_same,List.map_reverse],hst,rfl,by simp only [List.length_nil]; omega,hin⟩
  refine ⟨fun mm σ H'=>∃ (x y z:Option V) (l:List Mi.Pc) (ts done:List Mi.Tk),σ = [some (.ref na),some (.ref pp),some (.ref pt),some (.ref pw),x,y,z,none]∧SS H tb st ts0 pt pw mm l ts done H',⟨m,none,none,none,_,_,_,rfl,ss0⟩,?_⟩
  (intro mm σ H2 oi5; refine o6_2 oi5 fun x y z l ts done y6_6 ss=>?_; try clear oi5; subst y6_6)
  refine o1_2 ss.toks fun bs hbt hbp=>?_
  refine ⟨_,rfl,Nat.zero_le _,fun q0 hq0=>?_⟩
  have sq:Same H2 (upd H2 q0 (.lst [])):=same_new hq0
  generalize eH3:upd H2 q0 (.lst []) = H3 at sq
  have hq3:H3 q0 = some (.lst []):=by rw [← eH3]; exact upd_same
  have s3:=ss.same.trans sq
  have hbp3:Paired (TkAt H3) bs done:=Paired.mapP hbp fun a t e=>sq _ _ e
  have hbt3:=sq _ _ hbt
  have hw3:=sq _ _ ss.wait
  have hbl:bs.length = done.length:=Paired.length hbp
  refine ⟨_,_,.lst (SqL.of hw3) (dC_dp l.reverse),.lst (SqL.of hq3) .nil,dC_shp _,rfl,_,rfl,?_⟩
  rw [dC_nil]
  cases hl:l with
  | nil =>
   subst hl
   refine iteF ⟨_,rfl,k H3 pt s3 ⟨bs,hbt3,?_⟩⟩
   have e:ts = []:=by
    have h:=ss.stp
    cases h
    rfl
   rw [ss.all,e,List.append_nil]
   exact hbp3
  | cons p l' =>
   subst hl
   have hne:(!(p :: l').reverse.isEmpty) = true:=by simp
   rw [hne]
   refine iteT ?_
   have hle:=ss.le
   have hsl:=ss.stp.len
   simp only [List.length_cons] at hsl
   refine ⟨fun σ' H'=>∃ mm',mm' < mm∧∃ (x y z:Option V) (l:List Mi.Pc) (ts done:List Mi.Tk),σ' = [some (.ref na),some (.ref pp),some (.ref pt),some (.ref pw),x,y,z,none]∧SS H tb st ts0 pt pw mm' l ts done H',fun _ _ h=>h,?_⟩
   have hwr:H3 pw = some (.lst (l'.reverse.map pcV ++ [pcV p])):=by
    rw [hw3,List.reverse_cons,List.map_append]
    rfl
   refine ⟨_,rfl,.inl ⟨rfl,_,SqL.of hwr⟩,pw,_,_,rfl,rfl,hwr,pop_last _ _,?_⟩
   rw [List.dropLast_concat]
   generalize eH4:upd H3 pw (.lst (l'.reverse.map pcV)) = H4
   have hw4:H4 pw = some (.lst (l'.reverse.map pcV)):=by rw [← eH4]; exact upd_same
   have s4:Same H H4:=by rw [← eH4]; exact Same.put s3 hpw0
   have hbt4:H4 pt = some (.lst (bs.map V.ref)):=by rw [← eH4,upd_ne ntw]; exact hbt3
   have hbp4:Paired (TkAt H4) bs done:=Paired.mapP hbp3 fun a t e=>by
    show H4 a = _
    rw [← eH4,upd_ne (ne_of (show H3 a = some (.tup _) from e) hwr (by intro z; cases z))]
    exact e
   have hin':∀ i,Mi.Pc.n i ∈ l'→i < tb.length:=fun i h=>ss.in_ i (by simp [h])
   have add:∀ (q:Addr) (kd:Mi.Sy) (z:Int) (H5:Hp) (ts':List Mi.Tk) (m':Nat),H4 q = none→H5 = upd H4 q (.tup [V.str (nm kd),V.int z,V.int 0])→ts = (kd,z,0) :: ts'→m' < mm→Mi.StP st tb l' ts' m' →
     SS H tb st ts0 pt pw m' l' ts' (done ++ [(kd,z,0)]) (upd H5 pt (.lst (bs.map V.ref ++ [V.ref q]))):=by
    rintro q kd z H5 ts' m' hq rfl ets hm' hst'
    have s45:=same_new (o:=.tup [V.str (nm kd),V.int z,V.int 0]) hq
    have nqt:q≠pt:=fun e=>by rw [e,hbt4] at hq; cases hq
    refine ⟨Same.put (s4.trans s45) hpt,⟨bs ++ [q],by rw [upd_same,List.map_append]; rfl,?_⟩,by rw [upd_ne (Ne.symm ntw)]; exact s45 _ _ hw4,hst',by rw [ss.all,ets,List.append_assoc]; rfl,by rw [List.length_append]; simp only [List.length_cons,List.length_nil]; omega,hin'⟩
    refine Paired.snoc (Paired.mapP hbp4 fun a t e=>?_) ?_
    ·show upd _ _ _ a = _
     rw [upd_ne (ne_of (show H4 a = some (.tup _) from e) hbt4 (by intro z; cases z))]
     exact s45 _ _ e
    ·show upd _ _ _ q = _
     rw [upd_ne nqt,upd_same]
     rfl
   have hbz:(bs.map V.ref).length < sizeLine:=by rw [List.length_map,hbl]; exact Nat.lt_of_le_of_lt (show done.length≤5000 by omega) (by decide)
   cases hp:p with
   | s kd =>
    subst hp
    refine o2_4 (Mi.piece_s ss.stp) fun ts' m' hg ets hm' hst'=>?_
    refine ⟨_,rfl,_,rfl,.inr ⟨_,rfl⟩,_,rfl,?_⟩
    refine iteT ⟨_,rfl,.inl ⟨rfl,_,SqL.of hbt4⟩,_,rfl,(by show 3≤sizeLine; decide),fun q hq=>?_⟩
    exact ⟨pt,_,_,rfl,rfl,(same_new hq) _ _ hbt4,hbz,m',hm',_,_,_,l',ts',_,rfl,add q kd 0 _ ts' m' hq rfl ets hm' hst'⟩
   | n i =>
    subst hp
    have hi:=ss.in_ i (by simp)
    have hri:=hroot i hi
    refine ⟨_,rfl,_,rfl,.inl ⟨_,rfl⟩,_,rfl,?_⟩
    refine iteF ?_
    rcases Mi.piece_n ss.stp with ⟨kd,z,ts',m',hn,hlf,hg,ets,hm',hst'⟩ | ⟨n,m',hn,hlf,hpt',hm',hst'⟩
    ·refine o2_3 (nodes_at (hna.same s4) (resN_at hi hn)) fun nas a hna1 hat1 hnd1=>?_
     refine ⟨_,rfl,_,rfl,na,_,_,_,rfl,rfl,SqL.of hna1,hat1,a,_,_,_,rfl,rfl,SqT.of hnd1,at_zero _,aLe,_,rfl,.inr (T3.leaves H4),rfl,rfl,_,rfl,?_⟩
     rw [if_neg (by decide),in_leafS,hlf]
     refine iteT ⟨_,rfl,.inl ⟨rfl,_,SqL.of hbt4⟩,_,rfl,_,rfl,na,_,_,_,rfl,rfl,SqL.of hna1,hat1,a,_,_,_,rfl,rfl,SqT.of hnd1,at_zero _,_,rfl,_,rfl,na,_,_,_,rfl,rfl,SqL.of hna1,hat1,a,_,_,_,rfl,rfl,SqT.of hnd1,at_one,(by show 3≤sizeLine; decide),fun q hq=>?_⟩
     exact ⟨pt,_,_,rfl,rfl,(same_new hq) _ _ hbt4,hbz,m',hm',_,_,_,l',ts',_,rfl,add q kd z _ ts' m' hq rfl ets hm' hst'⟩
    ·refine o2_3 (nodes_at (hna.same s4) (resN_at hi hn)) fun nas a hna1 hat1 hnd1=>?_
     have hsg:=hsp n.1
     (refine o1_1 (show ∃ sl,spellK n.1 = some sl from Option.isSome_iff_exists.mp (by rw [spell_part]; exact hpt')) fun sl hsl'=>?_)
     rw [hsl'] at hsg
     (refine o1_2 hsg fun b hb hbs=>?_; try clear hsg)
     refine o0_4 (spell_el (hT.ok _ _ hn) hsl') fun e1 e2 e3 e4=>?_
     refine ⟨_,rfl,_,rfl,na,_,_,_,rfl,rfl,SqL.of hna1,hat1,a,_,_,_,rfl,rfl,SqT.of hnd1,at_zero _,aLe,_,rfl,.inr (T3.leaves H4),rfl,rfl,_,rfl,?_⟩
     rw [if_neg (by decide),in_leafS,hlf]
     refine iteF ⟨_,rfl,_,rfl,na,_,_,_,rfl,rfl,SqL.of hna1,hat1,?_⟩
     refine ⟨_,rfl,a,_,_,_,rfl,rfl,SqT.of hnd1,at_zero _,aPa,sgn n.1,mp,.ref b,_,rfl,rfl,hmp,hb,rfl,b,rfl,⟨_,hbs H4⟩,fun D hD=>?_⟩
     refine lc_tup (K:=K) (a:=b) (xs:=sl) (fun j H'=>Same H4 H'∧H' D = some (.lst (((Mi.spell n).map pcV).take j))) ⟨same_new hD,upd_same⟩ (fun j H' _ q=>hbs H') ?_ ?_
     ·(intro j v H5 hj oi14; refine o0_2 oi14 fun s45 hD5=>?_; try clear oi14)
      refine ⟨rfl,fun v' H'=>H5 = H'∧((Mi.spell n).map pcV)[j]? = some v',?_,?_⟩
      ·rcases e3 j v hj with ⟨⟨x,rfl⟩,ev⟩ | ⟨z,y,rfl,ea,ev⟩
       ·exact ⟨_,rfl,_,rfl,.inr ⟨_,rfl⟩,_,rfl,iteT ⟨_,rfl,rfl,ev⟩⟩
       ·exact ⟨_,rfl,_,rfl,.inl ⟨_,rfl⟩,_,rfl,iteF ⟨_,rfl,_,rfl,a,_,_,_,rfl,rfl,SqT.of (s45 _ _ hnd1),ea,rfl,ev⟩⟩
      (intro v' _ oi16; refine o0_2 oi16 fun y17_0 ev=>?_; try clear oi16; subst y17_0)
      refine ⟨_,hD5,?_,Same.put s45 hD,?_⟩
      ·rw [List.length_take]
       exact Nat.lt_of_le_of_lt (Nat.le_trans (Nat.min_le_right _ _) (by rw [← e1]; exact e2)) (by decide)
      ·rw [upd_same,take_snoc ev]
     (intro H5 oi18; refine o0_2 oi18 fun s45 hD5=>?_; try clear oi18)
     rw [e1,List.take_length] at hD5
     have hw5:=s45 _ _ hw4
     have hsl6:((Mi.spell n).map pcV).length≤6:=by rw [← e1]; exact e2
     refine ⟨_,rfl,.inl ⟨rfl,_,SqL.of hw5⟩,_,rfl,D,_,rfl,SqL.of hD5,Nat.le_trans hsl6 (by decide),fun lr hlr=>?_⟩
     have s56:=same_new (o:=.lst ((Mi.spell n).map pcV).reverse) hlr
     refine ⟨pw,lr,_,_,rfl,rfl,s56 _ _ hw5,upd_same,?_,?_⟩
     ·rw [List.length_map,List.length_reverse,List.length_reverse]
      exact Nat.le_trans (show l'.length + ((Mi.spell n).map pcV).length≤5006 by omega) (by decide)
     ·have s46:=s45.trans s56
      refine ⟨m',hm',_,_,_,Mi.spell n ++ l',ts,done,rfl,⟨Same.put (s4.trans s46) hpw0,⟨bs,by rw [upd_ne ntw]; exact s46 _ _ hbt4,Paired.mapP hbp4 fun a t e=>?_⟩,?_,hst',ss.all,by omega,fun i' hi'=>?_⟩⟩
      ·have e5:_ = some (HO.tup _):=s46 _ _ (show H4 a = some (.tup _) from e)
       show upd _ _ _ a = _
       rw [upd_ne (ne_of e5 (s46 _ _ hw4) (by intro z; cases z))]
       exact e5
      ·rw [upd_same,List.reverse_append,List.map_append,List.map_reverse (l:=Mi.spell n)]
      ·rcases List.mem_append.mp hi' with q | q
       ·exact Nat.lt_trans (e4 i' q) hri
       ·exact hin' i' q
end
end Jd
namespace Jd
open PySem PySem.Spec PyProof.Rows L2 W1
open PySem.W (Codec)
theorem TextsAt.two {K:PySem.W.Frag} {H:Hp} {a b p:Addr} {ns ms:List Int} (hS:IL K H a ns) (hS2:IL K H b ms) (hp:H p = none):TextsAt K (upd H p (.lst [.ref a,.ref b])) p [ns,ms]:=⟨[a,b],upd_same,.cons ((same_new hp).seq hS) (.cons ((same_new hp).seq hS2) .nil)⟩
theorem long2 {ns ms:List Int} (h:Mi.refusals [ns,ms] = none):ns.length≤1024∧ms.length≤1024:=by
 unfold Mi.refusals at h
 split at h
 ·cases h
 ·rename_i hn
  simp only [List.map_cons,List.map_nil,List.any_cons,List.any_nil,id,Bool.or_false,Bool.or_eq_true,decide_eq_true_eq,not_or] at hn
  omega
theorem nodes_of {H:Hp} {ts:List Addr}:∀ {i:Nat} {tb:List Mi.Nk},Paired (fun t (p:List Key × V)=>H t = some (.tup (p.1.map kV))) ts (enumT i tb)→Paired (NdAt H) ts tb:=by
 intro i tb
 induction tb generalizing ts i with
 | nil=>intro h; cases h; exact .nil
 | cons n tb ih =>
  intro h
  cases h with
  | cons r t=>exact .cons r (ih t)
end Jd
namespace Jd
open PySem PySem.Spec PyProof.Rows L2 W1
open PySem.W (Codec)
def ThenAns (ns ms l:List Int):Prop:=match Mi.refusals [ns,ms] with
 | some r=>l = r
 | none=>∃ x y,(Mi.toks 0 ns).map (fun y=>Mi.et y.1 y.2.1) = Mi.tEff x∧(Mi.toks 0 ms).map (fun y=>Mi.et y.1 y.2.1) = Mi.tEff y∧(∀ z ∈ Mi.toks 0 ns,Mi.okK z.1 = true∧0≤z.2.1)∧(∀ z ∈ Mi.toks 0 ms,Mi.okK z.1 = true∧0≤z.2.1)∧l = match Rs.following x y with
  | none=>[1]
  | some none=>[-5]
  | some (some E)=>0 :: ((Mi.toI E.text).length:Int) :: Mi.toI E.text
def spThen (K:PySem.W.Frag):Sp:=fun vs H Q _=>∃ (a b:Addr) (ns ms:List Int),vs = [.ref a,.ref b]∧IL K H a ns∧IL K H b ms∧Mi.InB ns∧Mi.InB ms∧∃ l,ThenAns ns ms l∧∀ (H':Hp) (p:Addr),Same H H'→H' p = some (.lst (l.map V.int))→Q (.ref p) H'
theorem ok_good {k:Mi.Sy} (h:Mi.okK k = true):Mi.goodK k = true:=by
 cases k <;> first
  | rfl
  | exact absurd h (by decide)
section
variable {P:Program} {w:World} {K:PySem.W.Frag} {mg:Str→Option Value} {base:Heap} {aB aF aE aS aV aLe aHE aIE aPa:Addr}
abbrev s_then:Stmt:=top 14
theorem sc_then:FnScope ["t","u","refusal","numbers","first","second","nodes","weights"] ["t","u"] (defScope s_then):=⟨rfl,rfl,rfl,by decide +kernel,rfl,by decide +kernel,by decide +kernel⟩
theorem then_body (T:Txt P w K mg aB aF aE aS aV) (T2:Txt2 mg) (T3:Txt3 P w K mg aLe aHE aIE aPa) (T4:Txt4 mg) (C_refusal_of:Own P w K mg base "refusal_of" 7 ["texts"] (spRefusal K)) (C_tokens_of:Own P w K mg base "tokens_of" 5 ["t"] (spTokens K)) (C_rows_of:Own P w K mg base "rows_of" 3 ["tokens","numbers"] spRows) (C_kept_apart:Own P w K mg base "kept_apart" 1 ["tokens"] spKept) (C_made_equal:Own P w K mg base "made_equal" 2 ["pairs","nodes","fixed"] spMade) (C_weights_in:Own P w K mg base "weights_in" 1 ["nodes","roots"] spWeigh) (C_spelled:Own P w K mg base "spelled" 1 ["nodes","pieces"] spSpell) (C_named_in_order:Own P w K mg base "named_in_order" 1 ["tokens"] spNamed) (C_written:Own P w K mg base "written" 3 ["tokens"] spWritten) (C_text_answer:Own P w K mg base "text_answer" 1 ["text"] spTextA)
  (f:Addr) (cdv:Value) (A:Around) (outer:List Env) (s:Shared) (H:Hp) (vs:List V) (Q:VK) (E:XK) (hr:Room 7 (A.deeper (envOfC "then" (defScope s_then) s.heap.objs.size f cdv))) (h:spThen K vs H Q E) :
  ∃ t,PSs (cxOf CX0 P w K mg base ["t","u","refusal","numbers","first","second","nodes","weights"] "then" (defScope s_then) f cdv A outer s H E).nox (defBody s_then) t∧t { nx:=fun _ H'=>Q .non H',rt:=Q } (start ["t","u","refusal","numbers","first","second","nodes","weights"] vs) H:=by
 obtain ⟨a,b,ns,ms,rfl,hS,hS2,hB,hB2,ans,hans,k⟩:=h
 refine ⟨_,(pss_cons (ps_set (i:=2) sc_then.nd rfl (Or.inl rfl) (pe_own C_refusal_of (hr.mono (by decide)) (by rfl) (pa_cons (pe_lst (pa_cons (pv 0) (pa_cons (pv 1) pa_nil))) pa_nil)))
   (pss_cons (ps_if (pt_cmp (pc_notN (pv 2)))
    (pss_one (ps_ret (pv 2)))
    pss_nil)
   (pss_cons (ps_set (i:=3) sc_then.nd rfl (Or.inl rfl) pe_dnewT)
   (pss_cons (ps_set (i:=4) sc_then.nd rfl (Or.inl rfl) (pe_own C_rows_of (hr.mono (by decide)) (by rfl) (pa_cons (pe_own C_tokens_of (hr.mono (by decide)) (by rfl) (pa_cons (pv 0) pa_nil)) (pa_cons (pv 3) pa_nil))))
   (pss_cons (ps_set (i:=5) sc_then.nd rfl (Or.inl rfl) (pe_own C_rows_of (hr.mono (by decide)) (by rfl) (pa_cons (pe_own C_kept_apart (hr.mono (by decide)) (by rfl) (pa_cons (pe_own C_tokens_of (hr.mono (by decide)) (by rfl) (pa_cons (pv 1) pa_nil)) pa_nil)) (pa_cons (pv 3) pa_nil))))
   (pss_cons (ps_set (i:=6) sc_then.nd rfl (Or.inl rfl) (pe_own C_made_equal (hr.mono (by decide)) (by rfl) (pa_cons (pe_lst (pa_cons (pe_tup (pa_cons (pe_ix ix_list (pv 4) pe_int (fun _ _=>rfl)) (pa_cons (pe_ix ix_list (pv 5) pe_int (fun _ _=>rfl)) pa_nil))) pa_nil)) (pa_cons (pe_callTy (call_list_dT rfl) (by rfl) T.b_list bo_list (pa_cons (pv 3) pa_nil)) (pa_cons (pe_callB call_lenT (by rfl) T.b_len bo_len (pa_cons (pv 3) pa_nil)) pa_nil)))))
   (pss_cons (ps_set (i:=7) sc_then.nd rfl (Or.inl rfl) (pe_ifExp (pt_cmp (pc_isN (pv 6))) pe_non (pe_own C_weights_in (hr.mono (by decide)) (by rfl) (pa_cons (pv 6) (pa_cons (pe_lst (pa_cons (pe_ix ix_list (pv 4) pe_int (fun _ _=>rfl)) (pa_cons (pe_ix ix_list (pv 4) pe_int (fun _ _=>rfl)) (pa_cons (pe_ix ix_list (pv 5) pe_int (fun _ _=>rfl)) pa_nil)))) pa_nil)))))
   (pss_cons (ps_if (pt_cmp (pc_isN (pv 7)))
    (pss_one (ps_ret (pe_lst (pa_cons pe_int pa_nil))))
    pss_nil)
   (pss_cons (ps_if (pt_cmpR op_gt (pe_op op_add (pe_dget (hu_of hr) (pv 7) (pe_ix ix_list (pv 4) pe_int (fun _ _=>rfl)) (fun _ _=>rfl)) (pe_dget (hu_of hr) (pv 7) (pe_ix ix_list (pv 5) pe_int (fun _ _=>rfl)) (fun _ _=>rfl))) (pe_gint (by rfl) T2.g_HEAVIEST) (nomark _))
    (pss_one (ps_ret (pe_lst (pa_cons (pe_un un_neg pe_int) pa_nil))))
    pss_nil)
   (pss_one (ps_ret (pe_own C_text_answer (hr.mono (by decide)) (by rfl) (pa_cons (pe_own C_written (hr.mono (by decide)) (by rfl) (pa_cons (pe_own C_named_in_order (hr.mono (by decide)) (by rfl) (pa_cons (pe_own C_spelled (hr.mono (by decide)) (by rfl) (pa_cons (pv 6) (pa_cons (pe_lst (pa_cons (pe_ix ix_list (pv 4) pe_int (fun _ _=>rfl)) (pa_cons pe_str (pa_cons (pe_ix ix_list (pv 5) pe_int (fun _ _=>rfl)) pa_nil)))) pa_nil))) pa_nil)) pa_nil)) pa_nil))))))))))))),?_⟩
 try dsimp only [cxOf,Cx.nox]
 refine ⟨_,rfl,_,rfl,(by show 2≤sizeLine; decide),fun p0 hp0=>?_⟩
 have s0:Same H (upd H p0 (.lst [.ref a,.ref b])):=same_new hp0
 refine ⟨p0,[ns,ms],rfl,TextsAt.two hS hS2 hp0,(by show 2≤2; decide),fun H1 s1' hn=>?_,fun H1 p l s1' hs hp=>?_⟩
 ·have s1:=s0.trans s1'
  refine o0_2 (long2 hn) fun hl1 hl2=>?_
  unfold ThenAns at hans
  rw [hn] at hans
  (refine o2_5 hans fun x y hx hy hkx hky y3_6=>?_; try clear hans; subst y3_6)
  have ht1:(Mi.toks 0 ns).length≤1024:=Nat.le_trans (Mi.toks_len _ _ _) hl1
  have ht2:(Mi.toks 0 ms).length≤1024:=Nat.le_trans (Mi.toks_len _ _ _) hl2
  refine o3_7 (Mi.walk_of Mi.cT hB hx hkx (tb:=[]) Mi.TbOk.nil) fun i j tb1 e1 n1 rb1 rh1 run1 safe1 g1=>?_
  refine o3_7 (Mi.walk_of Mi.cU hB2 hy hky (tb:=tb1) n1) fun i' j' tb2 e2 n2 rb2 rh2 run2 safe2 g2=>?_
  rw [same_map fun z hz=>(hkx z hz).2] at run1 safe1
  rw [← kept_map fun z hz=>(hky z hz).2] at run2 safe2
  have tl1:tb1.length≤3072:=by
   have:=Mi.runH_len (Mi.toks 0 ns) ([],[.ob],[])
   rw [run1] at this
   simp only [List.length_nil] at this
   omega
  have tl2:tb2.length≤10000:=by
   have:=Mi.runH_len ((Mi.toks 0 ms).map keptT) ([],[.ob],tb1)
   rw [run2] at this
   simp only [List.length_map] at this
   omega
  refine ⟨_,rfl,_,rfl,iteF fun d hd=>?_⟩
  have s2:Same H1 (upd H1 d (.dT [])):=same_new hd
  have hd0:H d = none:=s1.free hd
  have s12:=s1.trans s2
  refine ⟨_,rfl,a,ns,rfl,s12.seq hS,by omega,fun H3 l1 s3 hl1' hT1=>?_⟩
  have hd3:NumsAt H3 d []:=s3 _ _ upd_same
  refine ⟨_,rfl,l1,d,Mi.toks 0 ns,[],rfl,hT1,hd3,ht1,Nat.zero_le _,safe1,fun H4 p4 s4 hp4 hd4 hb4=>?_⟩
  rw [run1] at hd4 hb4
  have s13:=s12.trans s3
  have nd4:p4≠d:=fun z=>by rw [z] at hp4; rw [hd3] at hp4; cases hp4
  have x4:Same H H4:=fun c u e=>s4 c u (ne_of_none e hd0) (s13 c u e)
  refine ⟨_,rfl,b,ms,rfl,x4.seq hS2,by omega,fun H5 l2 s5 hl2' hT2=>?_⟩
  refine ⟨l2,Mi.toks 0 ms,rfl,hT2,by omega,fun H5' l2' s5' hl2'' hT2'=>?_⟩
  have s55:=s5.trans s5'
  have hd5:NumsAt H5' d tb1:=s55 _ _ hd4
  refine ⟨_,rfl,l2',d,(Mi.toks 0 ms).map keptT,tb1,rfl,hT2',hd5,by rw [List.length_map]; exact ht2,by omega,safe2,fun H6 p6 s6 hp6 hd6 hb6=>?_⟩
  rw [run2] at hd6 hb6
  have x6:Same H H6:=fun c u e=>s6 c u (ne_of_none e hd0) (s55 _ _ (x4 c u e))
  have hg6:H6 p4 = some (.lst (bl [j,i])):=s6 _ _ nd4 (s55 _ _ hb4)
  have rb1':=Mi.repR_ext e2 _ rb1
  have rh1':=Mi.repR_ext e2 _ rh1
  have a0:∀ u v:Nat,atI (bl [v,u]) 0 = some (V.int (u:Int)):=fun u v=>at_of (j:=0) rfl rfl
  have a1:∀ u v:Nat,atI (bl [v,u]) 1 = some (V.int (v:Int)):=fun u v=>at_of (j:=1) rfl rfl
  refine ⟨_,rfl,p4,_,_,_,rfl,rfl,SqL.of hg6,a1 i j,_,rfl,p6,_,_,_,rfl,rfl,SqL.of hb6,a0 i' j',(by show 2≤sizeLine; decide),fun q1 hq1=>?_⟩
  have s7a:=same_new (o:=.tup [V.int (j:Int),V.int (i':Int)]) hq1
  refine ⟨(by show 1≤sizeLine; decide),fun q2 hq2=>?_⟩
  have s7b:=same_new (o:=.lst [V.ref q1]) hq2
  have s7:=s7a.trans s7b
  generalize eH7:upd (upd H6 q1 (.tup [V.int (j:Int),V.int (i':Int)])) q2 (.lst [V.ref q1]) = H7 at s7 s7b
  have hq2':H7 q2 = some (.lst [V.ref q1]):=by rw [← eH7]; exact upd_same
  have hq1':H7 q1 = some (.tup [V.int (j:Int),V.int (i':Int)]):=s7b _ _ upd_same
  have hd7:NumsAt H7 d tb2:=s7 _ _ hd6
  refine ⟨_,rfl,d,_,rfl,hd7,fun l3 as hl3 has=>?_⟩
  have s8:Same H7 (upd H7 l3 (.lst (as.map V.ref))):=same_new hl3
  have hnod:Paired (NdAt H7) as tb2:=nodes_of has
  have x8:=(x6.trans s7).trans s8
  have hd8:NumsAt (upd H7 l3 (.lst (as.map V.ref))) d tb2:=s8 _ _ hd7
  have hg8:=(s7.trans s8) _ _ hg6
  have hb8:=(s7.trans s8) _ _ hb6
  refine ⟨_,rfl,d,_,rfl,hd8,?_⟩
  rw [enumT_len]
  have fin:=Mi.then_fin (f:=2 * Mi.nrs (Mi.stOf tb2 tb2.length) + 1) (g:=3 * tb2.length + 3) n2 rb1' rh1' rb2 rh2 (Nat.le_refl _) (Nat.le_refl _)
  have ans1:∀ (H9:Hp),Same H H9→Rs.following x y = none→∀ p,H9 p = none→Q (.ref p) (upd H9 p (.lst [V.int 1])):=fun H9 s9 hf p hp=>by
   rw [hf] at k
   exact k _ p (s9.trans (same_new hp)) upd_same
  refine ⟨q2,l3,tb2.length,[q1],[(j,i')],tb2,rfl,s8 _ _ hq2',.cons (s8 _ _ hq1') .nil,⟨as,upd_same,Paired.mapP hnod fun c n e=>s8 _ _ e⟩,n2,Mi.rig_len tb2,?_,(by show 1≤2; decide),tl2,fun hN H9 s9=>?_,fun s' hS' hW' hN' H9 pn s9 hpn hnodes=>?_⟩
  ·intro q hq
   simp only [List.mem_cons,List.not_mem_nil,or_false] at hq
   subst hq
   exact ⟨(Mi.repR_kd rh1').1,(Mi.repR_kd rb2).1⟩
  ·have hN:Mi.eqAll (2 * Mi.nrs (Mi.stOf tb2 tb2.length) + 1) (Mi.stOf tb2 tb2.length) [(j,i')] = none:=hN
   rw [hN] at fin
   refine ⟨_,rfl,_,rfl,iteT ?_⟩
   refine ⟨_,rfl,_,rfl,iteT ⟨(by show 1≤sizeLine; decide),fun p hp=>ans1 H9 (x8.trans s9) fin p hp⟩⟩
  ·have hS':Mi.eqAll (2 * Mi.nrs (Mi.stOf tb2 tb2.length) + 1) (Mi.stOf tb2 tb2.length) [(j,i')] = some s':=hS'
   rw [hS'] at fin
   refine o0_3 fin fun _ _ fin=>?_
   (refine o1_1 hW' fun B W=>?_; try clear hW')
   have x9:=x8.trans s9
   have hg9:=s9 _ _ hg8
   have hb9:=s9 _ _ hb8
   have hsz:s'.nodes.size = tb2.length:=by rw [hN',Mi.st_size]
   have hroot:∀ i,i < tb2.length→s'.root i < tb2.length:=fun i hi=>by
    have:=W.root_lt (i:=i) (by rw [hsz]; exact hi)
    rw [hsz] at this
    exact this
   have hNR:NodeR s' tb2:=⟨hsz,fun i hi=>by
    refine o1_2 (Mi.at_tb n2 hN' W hi) fun n h1 h2=>?_
    exact ⟨n,resN_at hi h1,h2⟩⟩
   have hK:Mi.KidsIn s':=by
    have hK:=(Mi.st_dag n2 tb2.length).kids
    unfold Mi.KidsIn Mi.ndAt at hK ⊢
    rw [hN']
    exact hK
   refine ⟨_,rfl,_,rfl,iteF ?_⟩
   refine ⟨_,rfl,_,rfl,p4,_,_,_,rfl,rfl,SqL.of hg9,a0 i j,_,rfl,p4,_,_,_,rfl,rfl,SqL.of hg9,a1 i j,_,rfl,p6,_,_,_,rfl,rfl,SqL.of hb9,a1 i' j',(by show 3≤sizeLine; decide),fun q3 hq3=>?_⟩
   have s10:=same_new (o:=.lst [V.int (i:Int),V.int (j:Int),V.int (j':Int)]) hq3
   refine ⟨pn,q3,[i,j,j'],tb2,s',3 * tb2.length + 3,rfl,hnodes.same s10,upd_same,hNR,hK,hroot,?_,rfl,rfl,tl2,fun hwN H11 s11=>?_,fun W' hwS H11 pq kvs s11 hpq hWR=>?_⟩
   ·intro q hq
    simp only [List.mem_cons,List.not_mem_nil,or_false] at hq
    rcases hq with rfl | rfl | rfl
    ·exact (Mi.repR_kd rb1').1
    ·exact (Mi.repR_kd rh1').1
    ·exact (Mi.repR_kd rh2).1
   ·have hwN:Mi.wgh s' (3 * tb2.length + 3) Mi.wStart [] [j',j,i] = none:=hwN
    rw [hwN] at fin
    refine ⟨_,rfl,_,rfl,iteT ⟨(by show 1≤sizeLine; decide),fun p hp=>ans1 H11 ((x9.trans s10).trans s11) fin p hp⟩⟩
   ·have hwS:Mi.wgh s' (3 * tb2.length + 3) Mi.wStart [] [j',j,i] = some W':=hwS
    rw [hwS] at fin
    (refine o2_4 fin fun w1 w2 hw1 hw2 f5 f0=>?_; try clear fin)
    have s911:=s10.trans s11
    have x11:=x9.trans s911
    have hg11:=s911 _ _ hg9
    have hb11:=s911 _ _ hb9
    have hv1:valV kvs (.inl (i:Int)) = some (.int ((w1:Nat):Int)):=by rw [hWR i,hw1]; rfl
    have hv2:valV kvs (.inl (j':Int)) = some (.int ((w2:Nat):Int)):=by rw [hWR j',hw2]; rfl
    refine ⟨_,rfl,_,rfl,iteF ?_⟩
    refine ⟨_,rfl,_,rfl,p4,_,_,_,rfl,rfl,SqL.of hg11,a0 i j,pq,_,rfl,.inl ⟨kvs,.inl (i:Int),.inl hpq,rfl,hv1.symm⟩,_,rfl,_,rfl,p6,_,_,_,rfl,rfl,SqL.of hb11,a1 i' j',pq,_,rfl,.inl ⟨kvs,.inl (j':Int),.inl hpq,rfl,hv2.symm⟩,_,_,rfl,rfl,_,_,rfl,rfl,_,rfl,ite2 (fun h=>?_) (fun h=>?_)⟩
    ·have h':120 < w1 + w2:=by
      have:=of_decide_eq_true h
      omega
     rw [f5 h'] at k
     refine ⟨_,rfl,by decide,fun p hp=>k _ p (x11.trans (same_new hp)) upd_same⟩
    ·have h':¬ 120 < w1 + w2:=fun q=>h (decide_eq_true (by omega))
     refine o3_5 (f0 h') fun r1 r2 E' pr1 pr2 hwt hfo htx=>?_
     rw [hfo] at k
     have k:∀ (H':Hp) (p:Addr),Same H H'→H' p = some (.lst ((0 :: ((Mi.toI E'.text).length:Int) :: Mi.toI E'.text).map V.int))→Q (.ref p) H':=k
     rw [htx] at k
     generalize hts:Mi.tkE (Mi.zt tb2) r1 r2 = ts at k
     have hlen:ts.length≤2000:=by
      rw [← hts]
      have h1:=Mi.tk_lenR (Mi.zt tb2) r1
      have h2:=Mi.tk_lenR (Mi.zt tb2) r2
      simp only [Mi.tkE,List.length_append,List.length_cons]
      omega
     have hgood:∀ z ∈ ts,Mi.goodK z.1 = true:=fun z hz=>by rw [← hts] at hz; exact ok_good (Mi.tk_goodE _ _ _ z hz)
     have hst:=Mi.pieces_E pr1 pr2
     rw [hts] at hst
     have m1:=Mi.mR_le r1
     have m2:=Mi.mR_le r2
     refine ⟨_,rfl,_,rfl,p4,_,_,_,rfl,rfl,SqL.of hg11,a0 i j,_,rfl,p6,_,_,_,rfl,rfl,SqL.of hb11,a1 i' j',(by show 3≤sizeLine; decide),fun q5 hq5=>?_⟩
     have s12':=same_new (o:=.lst [V.int (i:Int),V.str "--",V.int (j':Int)]) hq5
     refine ⟨pn,q5,[.n i,.s .to,.n j'],ts,_,tb2,s',rfl,(hnodes.same s911).same s12',upd_same,n2,hst,by omega,?_,hroot,fun H13 p13 s13' hT13=>?_⟩
     ·intro q hq
      simp only [List.mem_cons,Mi.Pc.n.injEq,reduceCtorEq,List.not_mem_nil,or_false,false_or] at hq
      rcases hq with rfl | rfl
      ·exact (Mi.repR_kd rb1').1
      ·exact (Mi.repR_kd rh2).1
     refine ⟨p13,ts,rfl,hT13,hlen,fun H14 p14 s14 hN14=>?_⟩
     have hb:∀ x ∈ Mi.nmP Mi.o0 ts,Mi.goodK x.1 = true∧0≤x.2.1∧x.2.1≤2000:=fun x hx=>by
      have h1:=nmP_good _ _ hgood x hx
      have h2:=nmP_le _ Mi.o0 0 (fun _=>Nat.le_refl _) x hx
      exact ⟨h1.1,h1.2,by omega⟩
     refine ⟨p14,_,rfl,hN14,by rw [nmP_len]; exact hlen,hb,fun H15 p15 s15 hwl h15=>?_⟩
     exact ⟨p15,_,rfl,h15,hwl,fun H16 p16 s16 h16=>k H16 p16 ((((x11.trans s12').trans s13').trans s14).trans (s15.trans s16)) h16⟩
 ·have s1:=s0.trans s1'
  unfold ThenAns at hans
  rw [hs] at hans
  subst hans
  exact ⟨_,rfl,_,rfl,⟨_,rfl,k H1 p s1 hp⟩⟩
end
end Jd
namespace Jd
open PySem PySem.Spec PyProof.Rows L2 W1
open PySem.W (Codec)
section
variable {P:Program} {w:World} {K:PySem.W.Frag} {mg:Str→Option Value} {base h:Heap} {aB aF aE aS aV aLe aHE aIE aPa:Addr}
theorem fnAt_mk {x:Str} {st:Stmt} {f:Addr} {oc kV dc pm cd ct:Value} {od an:Option Addr} {sl:Array (Option Value)} (X:K.In h) (G:h.Ns mainGlobals mg) (a:PySem.W.nsIn K mainGlobals x = some (some (.ref f)))
  (l:K.lookup f = some ⟨oc,od,.func (PySem.W.fnOf x x (defArgs st) (defBody st) (defScope st) .none kV dc pm an cd ct),sl⟩) (c:PySem.W.codeIn K cd x = true) (k:PySem.W.keepIn K (.ref f) = true):FnAt K mg x st :=
 ⟨f,_,fun_mk l c k,PySem.W.mg_of X G a⟩
theorem gint_mk {x:Str} {i:Int} {t:Tok} (X:K.In h) (G:h.Ns mainGlobals mg) (a:PySem.W.nsIn K mainGlobals x = some (some (.int i t))):∃ t,mg x = some (.int i t):=⟨t,PySem.W.mg_of X G a⟩
theorem sqt_mk {a:Addr} {xs:List V} {its:List Value} {od:Option Addr} {n:Nat} {sl:Array (Option Value)} (l:K.lookup a = some ⟨.type "tuple",od,.seq its.toArray n,sl⟩) (z:its.length≤sizeLine) (v:Vals xs its) (H:Hp):SqT K H a xs :=
 .inr ⟨_,its.toArray,n,l,rfl,rfl,by rw [List.size_toArray]; exact z,v⟩
theorem is_nm (a b:Mi.Sy) (t:Tok):Value.isStrOf (nm a) (.str (nm b) t) = decide (b = a):=by
 unfold Value.isStrOf
 rw [Bool.eq_iff_iff]
 simp only [beq_iff_eq,decide_eq_true_eq]
 exact ⟨fun e=>nm_inj e,fun e=>by rw [e]⟩
def entries (h1 h2 h3 h4 h5 h6:Int) (t1 t2 t3 t4 t5 t6:Tok) (b1 b2 b3 b4 b5 b6:Addr):List DictEntry :=
 [⟨h1,.str (nm .num) t1,.ref b1⟩,⟨h2,.str (nm .bool) t2,.ref b2⟩,⟨h3,.str (nm .ty) t3,.ref b3⟩,⟨h4,.str (nm .list) t4,.ref b4⟩,⟨h5,.str (nm .pair) t5,.ref b5⟩,⟨h6,.str (nm .ob) t6,.ref b6⟩]
theorem starts_mk {h1 h2 h3 h4 h5 h6:Int} {t1 t2 t3 t4 t5 t6:Tok} {b1 b2 b3 b4 b5 b6:Addr} {n:Nat} (lo:(aS == sysModules) = false)
  (l:K.lookup aS = some ⟨.type "dict",none,.dict (entries h1 h2 h3 h4 h5 h6 t1 t2 t3 t4 t5 t6 b1 b2 b3 b4 b5 b6).toArray n,#[]⟩) (hk:PySem.W.KeysLit w.params (entries h1 h2 h3 h4 h5 h6 t1 t2 t3 t4 t5 t6 b1 b2 b3 b4 b5 b6))
  (v1:∀ H,SqT K H b1 []) (v2:∀ H,SqT K H b2 []) (v3:∀ H,SqT K H b3 []) (v4:∀ H,SqT K H b4 [.str (nm .cp),.str (nm .item),.str (nm .op)]) (v5:∀ H,SqT K H b5 [.str (nm .cp),.str (nm .item),.str (nm .cm),.str (nm .item),.str (nm .op)])
  (v6:∀ H,SqT K H b6 [.str (nm .cb),.str (nm .items),.str (nm .row),.str (nm .to),.str (nm .items),.str (nm .row)]) :
  ∃ m:Str→Option Value,DicK P w K aS m∧∀ k,Mi.goodK k = true→match Mi.starts k with
   | none=>m (nm k) = none
   | some l=>∃ b,m (nm k) = some (.ref b)∧∀ H,SqT K H b (l.reverse.map fun k=>V.str (nm k)):=by
 refine ⟨fun k=>findBy Value.isStrOf (entries h1 h2 h3 h4 h5 h6 t1 t2 t3 t4 t5 t6 b1 b2 b3 b4 b5 b6).toArray k,⟨lo,fun h X=>PySem.W.mapOf_K X l (by simpa using hk)⟩,fun k hk=>?_⟩
 have fb:∀ k,findBy Value.isStrOf (entries h1 h2 h3 h4 h5 h6 t1 t2 t3 t4 t5 t6 b1 b2 b3 b4 b5 b6).toArray (nm k) = if k = .num then some (.ref b1) else if k = .bool then some (.ref b2) else if k = .ty then some (.ref b3) else if k = .list then some (.ref b4) else if k = .pair then some (.ref b5) else if k = .ob then some (.ref b6) else none:=by
  intro k
  unfold findBy entries
  rw [List.find?_toArray]
  simp only [List.find?_cons,is_nm,List.find?_nil]
  cases k <;> rfl
 cases k <;> first
  | exact absurd hk (by decide)
  | exact fb _
  | exact ⟨_,fb _,v1⟩
  | exact ⟨_,fb _,v2⟩
  | exact ⟨_,fb _,v3⟩
  | exact ⟨_,fb _,v4⟩
  | exact ⟨_,fb _,v5⟩
  | exact ⟨_,fb _,v6⟩
theorem is_sg (a b:Mi.Sg) (t:Tok):Value.isStrOf (sgn a) (.str (sgn b) t) = decide (b = a):=by
 unfold Value.isStrOf
 rw [Bool.eq_iff_iff]
 simp only [beq_iff_eq,decide_eq_true_eq]
 exact ⟨fun e=>sgn_inj e,fun e=>by rw [e]⟩
def entriesP (h1 h2 h3 h4:Int) (t1 t2 t3 t4:Tok) (b1 b2 b3 b4:Addr):List DictEntry :=
 [⟨h1,.str (sgn (some .list)) t1,.ref b1⟩,⟨h2,.str (sgn (some .pair)) t2,.ref b2⟩,⟨h3,.str (sgn (some .ob)) t3,.ref b3⟩,⟨h4,.str (sgn none) t4,.ref b4⟩]
theorem spelled_mk {h1 h2 h3 h4:Int} {t1 t2 t3 t4:Tok} {b1 b2 b3 b4:Addr} {n:Nat} (lo:(aPa == sysModules) = false) (l:K.lookup aPa = some ⟨.type "dict",none,.dict (entriesP h1 h2 h3 h4 t1 t2 t3 t4 b1 b2 b3 b4).toArray n,#[]⟩) (hk:PySem.W.KeysLit w.params (entriesP h1 h2 h3 h4 t1 t2 t3 t4 b1 b2 b3 b4))
  (v1:∀ H,SqT K H b1 [.str "list",.str "(",.int 1,.str ")"]) (v2:∀ H,SqT K H b2 [.str "pair",.str "(",.int 1,.str ",",.int 2,.str ")"]) (v3:∀ H,SqT K H b3 [.str "[",.int 1,.str "--",.int 2,.str "]"]) (v4:∀ H,SqT K H b4 [.int 1,.int 2]) :
  ∃ m:Str→Option Value,DicK P w K aPa m∧∀ g:Mi.Sg,match spellK g with
   | none=>m (sgn g) = none
   | some l=>∃ b,m (sgn g) = some (.ref b)∧∀ H,SqT K H b l:=by
 refine ⟨fun k=>findBy Value.isStrOf (entriesP h1 h2 h3 h4 t1 t2 t3 t4 b1 b2 b3 b4).toArray k,⟨lo,fun h X=>PySem.W.mapOf_K X l (by simpa using hk)⟩,fun g=>?_⟩
 have fb:∀ g:Mi.Sg,findBy Value.isStrOf (entriesP h1 h2 h3 h4 t1 t2 t3 t4 b1 b2 b3 b4).toArray (sgn g) = if g = some .list then some (.ref b1) else if g = some .pair then some (.ref b2) else if g = some .ob then some (.ref b3) else if g = none then some (.ref b4) else none:=by
  intro g
  unfold findBy entriesP
  rw [List.find?_toArray]
  simp only [List.find?_cons,is_sg,List.find?_nil]
  cases g with
  | none=>rfl
  | some k=>cases k <;> rfl
 cases g with
 | none=>exact ⟨_,fb _,v4⟩
 | some k=>cases k <;> first
  | exact ⟨_,fb _,v1⟩
  | exact ⟨_,fb _,v2⟩
  | exact ⟨_,fb _,v3⟩
  | exact fb _
theorem ok_then_f {f:Addr} {fd:FuncData} (F:Fun K "then" "then" s_then f fd) (T:Txt P w K mg aB aF aE aS aV) (T2:Txt2 mg) (T3:Txt3 P w K mg aLe aHE aIE aPa) (T4:Txt4 mg) (C_refusal_of:Own P w K mg base "refusal_of" 7 ["texts"] (spRefusal K)) (C_tokens_of:Own P w K mg base "tokens_of" 5 ["t"] (spTokens K)) (C_rows_of:Own P w K mg base "rows_of" 3 ["tokens","numbers"] spRows) (C_kept_apart:Own P w K mg base "kept_apart" 1 ["tokens"] spKept) (C_made_equal:Own P w K mg base "made_equal" 2 ["pairs","nodes","fixed"] spMade) (C_weights_in:Own P w K mg base "weights_in" 1 ["nodes","roots"] spWeigh) (C_spelled:Own P w K mg base "spelled" 1 ["nodes","pieces"] spSpell) (C_named_in_order:Own P w K mg base "named_in_order" 1 ["tokens"] spNamed) (C_written:Own P w K mg base "written" 3 ["tokens"] spWritten) (C_text_answer:Own P w K mg base "text_answer" 1 ["text"] spTextA) :
  FnOk P w K mg base CX0 8 f fd ["t","u"] (spThen K):=F.ok sc_then (fun vs H Q E h=>by obtain ⟨a,b,ns,ms,rfl,_⟩:=h; rfl) (fun cdv A outer s H vs Q E hr h=>then_body T T2 T3 T4 C_refusal_of C_tokens_of C_rows_of C_kept_apart C_made_equal C_weights_in C_spelled C_named_in_order C_written C_text_answer f cdv A outer s H vs Q E hr h)
theorem all_mk {fa f:Addr} {oc kV dc pm cd ct:Value} {od an:Option Addr} {sl:Array (Option Value)} (X:K.In h) (G:h.Ns mainGlobals mg) (hfa:mg "then" = some (.ref fa)) (T:Txt P w K mg aB aF aE aS aV) (T2:Txt2 mg) (T3:Txt3 P w K mg aLe aHE aIE aPa) (T4:Txt4 mg) (F_rows_of:FnAt K mg "rows_of" s_rows_of) (F_joined:FnAt K mg "joined" s_joined) (F_kept_apart:FnAt K mg "kept_apart" s_kept_apart) (F_made_equal:FnAt K mg "made_equal" s_made_equal) (F_standing:FnAt K mg "standing" s_standing) (F_gives_way:FnAt K mg "gives_way" s_gives_way) (F_weights_in:FnAt K mg "weights_in" s_weights_in) (F_spelled:FnAt K mg "spelled" s_spelled) (F_named_in_order:FnAt K mg "named_in_order" s_named_in_order) (F_written:FnAt K mg "written" s_written) (F_token_bytes:FnAt K mg "token_bytes" s_token_bytes) (F_text_answer:FnAt K mg "text_answer" s_text_answer) (F_refusal_of:FnAt K mg "refusal_of" s_refusal_of) (F_fault_place:FnAt K mg "fault_place" s_fault_place) (F_awaited_behind:FnAt K mg "awaited_behind" s_awaited_behind) (F_too_deep:FnAt K mg "too_deep" s_too_deep) (F_tokens_of:FnAt K mg "tokens_of" s_tokens_of) (F_token_end:FnAt K mg "token_end" s_token_end) (F_kind_of:FnAt K mg "kind_of" s_kind_of) (F_number_of:FnAt K mg "number_of" s_number_of) (F_first_letter:FnAt K mg "first_letter" s_first_letter) (F_is_variable:FnAt K mg "is_variable" s_is_variable) (F_is_letter:FnAt K mg "is_letter" s_is_letter) (F_is_capital:FnAt K mg "is_capital" s_is_capital) (F_is_digit:FnAt K mg "is_digit" s_is_digit) (F_bytes_of:FnAt K mg "bytes_of" s_bytes_of)
  (a:PySem.W.nsIn K mainGlobals "then" = some (some (.ref f))) (l:K.lookup f = some ⟨oc,od,.func (PySem.W.fnOf "then" "then" (defArgs s_then) (defBody s_then) (defScope s_then) .none kV dc pm an cd ct),sl⟩) (c:PySem.W.codeIn K cd "then" = true) (k:PySem.W.keepIn K (.ref f) = true) :
  ∃ fd:FuncData,(∀ (s:Shared) (us:List Value),us.length = (["t","u"]:List Str).length→BindsTo s fd ⟨us,[]⟩ ((["t","u"]:List Str).zip us))∧∀ base:Heap,K.In base→base.Ns mainGlobals mg→FnOk P w K mg base CX0 8 fa fd ["t","u"] (spThen K):=by
 have e:=hfa.symm.trans (PySem.W.mg_of X G a)
 cases e
 refine ⟨PySem.W.fnOf "then" "then" (defArgs s_then) (defBody s_then) (defScope s_then) .none kV dc pm an cd ct,fun s us hu=>match us,hu with | [_,_],_=>.of_eq rfl,fun base _ _=>?_⟩
 have C_is_capital:=ok_is_capital (P:=P) (w:=w) (base:=base) F_is_capital
 have C_is_digit:=ok_is_digit (P:=P) (w:=w) (base:=base) F_is_digit
 have C_is_letter:=ok_is_letter F_is_letter C_is_capital
 have C_bytes_of:=ok_bytes_of (base:=base) F_bytes_of T
 have C_first_letter:=ok_first_letter (P:=P) (w:=w) (base:=base) F_first_letter
 have C_is_variable:=ok_is_variable F_is_variable T C_is_letter C_is_digit
 have C_kind_of:=ok_kind_of F_kind_of T C_bytes_of C_is_variable C_is_capital
 have C_number_of:=ok_number_of F_number_of T C_first_letter
 have C_token_end:=ok_token_end F_token_end T C_bytes_of C_is_letter C_is_digit
 have C_tokens_of:=ok_tokens_of F_tokens_of T C_token_end C_kind_of C_number_of
 have C_too_deep:=ok_too_deep (base:=base) F_too_deep T
 have C_awaited_behind:=ok_awaited_behind (base:=base) F_awaited_behind T
 have C_fault_place:=ok_fault_place F_fault_place T C_tokens_of C_awaited_behind C_too_deep
 have C_refusal_of:=ok_refusal_of F_refusal_of T C_fault_place
 have C_joined:=ok_joined (base:=base) F_joined T T3
 have C_rows_of:=ok_rows_of F_rows_of T T3 C_joined
 have C_kept_apart:=ok_kept_apart (base:=base) F_kept_apart T
 have C_standing:=ok_standing (base:=base) F_standing T
 have C_gives_way:=ok_gives_way (base:=base) F_gives_way T
 have C_made_equal:=ok_made_equal F_made_equal T T3 C_standing C_gives_way
 have C_weights_in:=ok_weights_in (base:=base) F_weights_in T T3 T4
 have C_spelled:=ok_spelled (base:=base) F_spelled T T2 T3 T4
 have C_named_in_order:=ok_named_in_order (base:=base) F_named_in_order T
 have C_token_bytes:=ok_token_bytes F_token_bytes T T2 C_bytes_of C_first_letter
 have C_written:=ok_written F_written T C_token_bytes
 have C_text_answer:=ok_text_answer (base:=base) F_text_answer T
 exact ok_then_f (fun_mk (st:=s_then) l c k) T T2 T3 T4 C_refusal_of C_tokens_of C_rows_of C_kept_apart C_made_equal C_weights_in C_spelled C_named_in_order C_written C_text_answer
end
end Jd
open PySem PySem.W PyProof.Rows
set_option maxRecDepth 100000 in
set_option maxHeartbeats 0 in
theorem PySem.Challenge.cw_stackeffects_s05_then_holds : PySem.Challenge.rw_stackeffects_s05_then.Holds := by
 w_on; k_headS; (case hw=>exact ⟨[.list [],.list []],by decide +kernel,by decide +kernel⟩)
 k_fillS
 refine L2.walk_specK (r:=PySem.Challenge.rw_stackeffects_s05_then) (k:=8) (CX:=L2.CX0) (ps:=["t","u"]) (sp:=Jd.spThen) (by decide +kernel) rfl rfl ⟨rfl,by decide,by decide⟩ (fun w h Y=>PySem.W.kIn_of Y) ?F ?S (fun _ _ _ _ z=>z)
 case F =>
  intro w mg fa h Y KX G hmg
  refine' Jd.all_mk KX G hmg ⟨Jd.gint_mk KX G ?gL,Jd.gint_mk KX G ?gD,Jd.gint_mk KX G ?gT,PySem.W.mg_of KX G ?gB,PySem.W.mg_of KX G ?gF,PySem.W.mg_of KX G ?gE,PySem.W.mg_of KX G ?gS,Jd.sqt_mk ?lB ?zB ?vB,Jd.sqt_mk ?lF ?zF ?vF,Jd.sqt_mk ?lE ?zE ?vE,Jd.starts_mk ?lo ?lS ?kS (Jd.sqt_mk ?l1 ?z1 ?v1) (Jd.sqt_mk ?l2 ?z2 ?v2) (Jd.sqt_mk ?l3 ?z3 ?v3) (Jd.sqt_mk ?l4 ?z4 ?v4) (Jd.sqt_mk ?l5 ?z5 ?v5) (Jd.sqt_mk ?l6 ?z6 ?v6),PySem.W.mg_of KX G ?gV,Jd.sqt_mk ?lV ?zV ?vV,PySem.W.mg_none_of KX G ?nany,PySem.W.mg_none_of KX G ?nenum,PySem.W.mg_none_of KX G ?nlen,PySem.W.mg_none_of KX G ?nmax,PySem.W.mg_none_of KX G ?nall,PySem.W.mg_none_of KX G ?nord,PySem.W.mg_none_of KX G ?nlist⟩ ⟨Jd.gint_mk KX G ?gH,PySem.W.mg_none_of KX G ?nstr⟩ ⟨PySem.W.mg_of KX G ?gLe,PySem.W.mg_of KX G ?gHE,PySem.W.mg_of KX G ?gIE,PySem.W.mg_of KX G ?gPa,Jd.sqt_mk ?lLe ?zLe ?vLe,Jd.sqt_mk ?lHE ?zHE ?vHE,Jd.sqt_mk ?lIE ?zIE ?vIE,Jd.spelled_mk ?loP ?lPa ?kPa (Jd.sqt_mk ?lp1 ?zp1 ?vp1) (Jd.sqt_mk ?lp2 ?zp2 ?vp2) (Jd.sqt_mk ?lp3 ?zp3 ?vp3) (Jd.sqt_mk ?lp4 ?zp4 ?vp4),PySem.W.mg_none_of KX G ?ntuple,PySem.W.mg_none_of KX G ?nzip,PySem.W.mg_none_of KX G ?nrange⟩ ⟨PySem.W.mg_none_of KX G ?nreversed,PySem.W.mg_none_of KX G ?nisi,PySem.W.mg_none_of KX G ?nsum⟩ (Jd.fnAt_mk KX G ?a_rows_of ?l_rows_of ?c_rows_of ?k_rows_of) (Jd.fnAt_mk KX G ?a_joined ?l_joined ?c_joined ?k_joined) (Jd.fnAt_mk KX G ?a_kept_apart ?l_kept_apart ?c_kept_apart ?k_kept_apart) (Jd.fnAt_mk KX G ?a_made_equal ?l_made_equal ?c_made_equal ?k_made_equal) (Jd.fnAt_mk KX G ?a_standing ?l_standing ?c_standing ?k_standing) (Jd.fnAt_mk KX G ?a_gives_way ?l_gives_way ?c_gives_way ?k_gives_way) (Jd.fnAt_mk KX G ?a_weights_in ?l_weights_in ?c_weights_in ?k_weights_in) (Jd.fnAt_mk KX G ?a_spelled ?l_spelled ?c_spelled ?k_spelled) (Jd.fnAt_mk KX G ?a_named_in_order ?l_named_in_order ?c_named_in_order ?k_named_in_order) (Jd.fnAt_mk KX G ?a_written ?l_written ?c_written ?k_written) (Jd.fnAt_mk KX G ?a_token_bytes ?l_token_bytes ?c_token_bytes ?k_token_bytes) (Jd.fnAt_mk KX G ?a_text_answer ?l_text_answer ?c_text_answer ?k_text_answer) (Jd.fnAt_mk KX G ?a_refusal_of ?l_refusal_of ?c_refusal_of ?k_refusal_of) (Jd.fnAt_mk KX G ?a_fault_place ?l_fault_place ?c_fault_place ?k_fault_place) (Jd.fnAt_mk KX G ?a_awaited_behind ?l_awaited_behind ?c_awaited_behind ?k_awaited_behind) (Jd.fnAt_mk KX G ?a_too_deep ?l_too_deep ?c_too_deep ?k_too_deep) (Jd.fnAt_mk KX G ?a_tokens_of ?l_tokens_of ?c_tokens_of ?k_tokens_of) (Jd.fnAt_mk KX G ?a_token_end ?l_token_end ?c_token_end ?k_token_end) (Jd.fnAt_mk KX G ?a_kind_of ?l_kind_of ?c_kind_of ?k_kind_of) (Jd.fnAt_mk KX G ?a_number_of ?l_number_of ?c_number_of ?k_number_of) (Jd.fnAt_mk KX G ?a_first_letter ?l_first_letter ?c_first_letter ?k_first_letter) (Jd.fnAt_mk KX G ?a_is_variable ?l_is_variable ?c_is_variable ?k_is_variable) (Jd.fnAt_mk KX G ?a_is_letter ?l_is_letter ?c_is_letter ?k_is_letter) (Jd.fnAt_mk KX G ?a_is_capital ?l_is_capital ?c_is_capital ?k_is_capital) (Jd.fnAt_mk KX G ?a_is_digit ?l_is_digit ?c_is_digit ?k_is_digit) (Jd.fnAt_mk KX G ?a_bytes_of ?l_bytes_of ?c_bytes_of ?k_bytes_of) ?a_then ?l_then ?c_then ?k_then
  (case gL=>k_is)
  (case gD=>k_is)
  (case gT=>k_is)
  (case gB=>k_is)
  (case gF=>k_is)
  (case gE=>k_is)
  (case gS=>k_is)
  (case gV=>k_is)
  (case gH=>k_is)
  (case nstr=>k_is)
  (case gLe=>k_is)
  (case gHE=>k_is)
  (case gIE=>k_is)
  (case gPa=>k_is)
  (case ntuple=>k_is)
  (case nzip=>k_is)
  (case nrange=>k_is)
  (case nreversed=>k_is)
  (case nisi=>k_is)
  (case nsum=>k_is)
  (case lB=>k_is)
  (case zB=>decide)
  (case vB=>repeat (first | exact .nil | refine .cons ⟨_,rfl⟩ ?_))
  (case lF=>k_is)
  (case zF=>decide)
  (case vF=>repeat (first | exact .nil | refine .cons ⟨_,rfl⟩ ?_))
  (case lE=>k_is)
  (case zE=>decide)
  (case vE=>repeat (first | exact .nil | refine .cons ⟨_,rfl⟩ ?_))
  (case lV=>k_is)
  (case zV=>decide)
  (case vV=>repeat (first | exact .nil | refine .cons ⟨_,rfl⟩ ?_))
  (case lLe=>k_is)
  (case zLe=>decide)
  (case vLe=>repeat (first | exact .nil | refine .cons ⟨_,rfl⟩ ?_))
  (case lHE=>k_is)
  (case zHE=>decide)
  (case vHE=>repeat (first | exact .nil | refine .cons ⟨_,rfl⟩ ?_))
  (case lIE=>k_is)
  (case zIE=>decide)
  (case vIE=>repeat (first | exact .nil | refine .cons ⟨_,rfl⟩ ?_))
  (case lS=>k_is)
  (case lo=>decide)
  (case kS=>exact ⟨⟨_,_,rfl,rfl⟩,⟨_,_,rfl,rfl⟩,⟨_,_,rfl,rfl⟩,⟨_,_,rfl,rfl⟩,⟨_,_,rfl,rfl⟩,⟨_,_,rfl,rfl⟩,trivial⟩)
  (case lPa=>k_is)
  (case loP=>decide)
  (case kPa=>exact ⟨⟨_,_,rfl,rfl⟩,⟨_,_,rfl,rfl⟩,⟨_,_,rfl,rfl⟩,⟨_,_,rfl,rfl⟩,trivial⟩)
  (case lp1=>k_is)
  (case zp1=>decide)
  (case vp1=>repeat (first | exact .nil | refine .cons ⟨_,rfl⟩ ?_))
  (case lp2=>k_is)
  (case zp2=>decide)
  (case vp2=>repeat (first | exact .nil | refine .cons ⟨_,rfl⟩ ?_))
  (case lp3=>k_is)
  (case zp3=>decide)
  (case vp3=>repeat (first | exact .nil | refine .cons ⟨_,rfl⟩ ?_))
  (case lp4=>k_is)
  (case zp4=>decide)
  (case vp4=>repeat (first | exact .nil | refine .cons ⟨_,rfl⟩ ?_))
  (case l1=>k_is)
  (case z1=>decide)
  (case v1=>repeat (first | exact .nil | refine .cons ⟨_,rfl⟩ ?_))
  (case l2=>k_is)
  (case z2=>decide)
  (case v2=>repeat (first | exact .nil | refine .cons ⟨_,rfl⟩ ?_))
  (case l3=>k_is)
  (case z3=>decide)
  (case v3=>repeat (first | exact .nil | refine .cons ⟨_,rfl⟩ ?_))
  (case l4=>k_is)
  (case z4=>decide)
  (case v4=>repeat (first | exact .nil | refine .cons ⟨_,rfl⟩ ?_))
  (case l5=>k_is)
  (case z5=>decide)
  (case v5=>repeat (first | exact .nil | refine .cons ⟨_,rfl⟩ ?_))
  (case l6=>k_is)
  (case z6=>decide)
  (case v6=>repeat (first | exact .nil | refine .cons ⟨_,rfl⟩ ?_))
  (case nany=>k_is)
  (case nenum=>k_is)
  (case nlen=>k_is)
  (case nmax=>k_is)
  (case nall=>k_is)
  (case nord=>k_is)
  (case nlist=>k_is)
  (case a_rows_of=>k_is); (case l_rows_of=>k_is); (case c_rows_of=>k_is); (case k_rows_of=>k_is)
  (case a_joined=>k_is); (case l_joined=>k_is); (case c_joined=>k_is); (case k_joined=>k_is)
  (case a_kept_apart=>k_is); (case l_kept_apart=>k_is); (case c_kept_apart=>k_is); (case k_kept_apart=>k_is)
  (case a_made_equal=>k_is); (case l_made_equal=>k_is); (case c_made_equal=>k_is); (case k_made_equal=>k_is)
  (case a_standing=>k_is); (case l_standing=>k_is); (case c_standing=>k_is); (case k_standing=>k_is)
  (case a_gives_way=>k_is); (case l_gives_way=>k_is); (case c_gives_way=>k_is); (case k_gives_way=>k_is)
  (case a_weights_in=>k_is); (case l_weights_in=>k_is); (case c_weights_in=>k_is); (case k_weights_in=>k_is)
  (case a_spelled=>k_is); (case l_spelled=>k_is); (case c_spelled=>k_is); (case k_spelled=>k_is)
  (case a_named_in_order=>k_is); (case l_named_in_order=>k_is); (case c_named_in_order=>k_is); (case k_named_in_order=>k_is)
  (case a_written=>k_is); (case l_written=>k_is); (case c_written=>k_is); (case k_written=>k_is)
  (case a_token_bytes=>k_is); (case l_token_bytes=>k_is); (case c_token_bytes=>k_is); (case k_token_bytes=>k_is)
  (case a_text_answer=>k_is); (case l_text_answer=>k_is); (case c_text_answer=>k_is); (case k_text_answer=>k_is)
  (case a_refusal_of=>k_is); (case l_refusal_of=>k_is); (case c_refusal_of=>k_is); (case k_refusal_of=>k_is)
  (case a_fault_place=>k_is); (case l_fault_place=>k_is); (case c_fault_place=>k_is); (case k_fault_place=>k_is)
  (case a_awaited_behind=>k_is); (case l_awaited_behind=>k_is); (case c_awaited_behind=>k_is); (case k_awaited_behind=>k_is)
  (case a_too_deep=>k_is); (case l_too_deep=>k_is); (case c_too_deep=>k_is); (case k_too_deep=>k_is)
  (case a_tokens_of=>k_is); (case l_tokens_of=>k_is); (case c_tokens_of=>k_is); (case k_tokens_of=>k_is)
  (case a_token_end=>k_is); (case l_token_end=>k_is); (case c_token_end=>k_is); (case k_token_end=>k_is)
  (case a_kind_of=>k_is); (case l_kind_of=>k_is); (case c_kind_of=>k_is); (case k_kind_of=>k_is)
  (case a_number_of=>k_is); (case l_number_of=>k_is); (case c_number_of=>k_is); (case k_number_of=>k_is)
  (case a_first_letter=>k_is); (case l_first_letter=>k_is); (case c_first_letter=>k_is); (case k_first_letter=>k_is)
  (case a_is_variable=>k_is); (case l_is_variable=>k_is); (case c_is_variable=>k_is); (case k_is_variable=>k_is)
  (case a_is_letter=>k_is); (case l_is_letter=>k_is); (case c_is_letter=>k_is); (case k_is_letter=>k_is)
  (case a_is_capital=>k_is); (case l_is_capital=>k_is); (case c_is_capital=>k_is); (case k_is_capital=>k_is)
  (case a_is_digit=>k_is); (case l_is_digit=>k_is); (case c_is_digit=>k_is); (case k_is_digit=>k_is)
  (case a_bytes_of=>k_is); (case l_bytes_of=>k_is); (case c_bytes_of=>k_is); (case k_bytes_of=>k_is)
  (case a_then=>k_is); (case l_then=>k_is); (case c_then=>k_is); (case k_then=>k_is)
 case S =>
  intro K H xs a hO hwi hask hx
  cases hx with
  | cons h1 h2 =>
   cases h2 with
   | cons h2 h3 =>
    cases h3
    cases h1 with
    | lst hs ha =>
     cases h2 with
     | lst hs2 ha2 =>
      have e:=L2.ints_dw a.1 _ ha
      subst e
      have e2:=L2.ints_dw a.2.1 _ ha2
      subst e2
      have q:((Codec.inLen 0 2000 a.1 && a.1.all (Codec.inInt 0 255)) && ((Codec.inLen 0 2000 a.2.1 && a.2.1.all (Codec.inInt 0 255)) && true)) = true:=hwi
      rw [Bool.and_eq_true,Bool.and_eq_true,Bool.and_eq_true,Bool.and_eq_true] at q
      have hB:Mi.InB a.1:=fun z hz=>Codec.inInt_iff.mp (List.all_eq_true.mp q.1.2 z hz)
      have hB2:Mi.InB a.2.1:=fun z hz=>Codec.inInt_iff.mp (List.all_eq_true.mp q.2.1.2 z hz)
      refine ⟨_,_,a.1,a.2.1,rfl,hs,hs2,hB,hB2,PyWqacdo.then_ a.1 a.2.1,Mi.then_eq hB hB2,fun H' p _ hp=>?_⟩
      show L2.Dw K H' (.ref p) (.list ((PyWqacdo.then_ a.1 a.2.1).map WData.int))
      exact .lst (L2.SqL.of hp) (L2.dw_ints _)
#print axioms PySem.Challenge.cw_stackeffects_s05_then_holds
