package parse

import (
	"testing"

	"merlon/api"
)

func TestStatements(t *testing.T) {
	for s, want := range map[string]string{
		"":                                   "[]",
		";":                                  "[{empty@8}]",
		"{}":                                 "[{block@8}]",
		"{ ; {x;} }":                         "[{block@8 [{empty@10} {block@12 [{do@13 x@13}]}]}]",
		"a = 1;":                             "[{do@8 (=@10 a@8 1@12)}]",
		"(a);":                               "[{do@8 a@9}]",
		"int x;":                             "[{let@8 x@12:int}]",
		"secret int *x[2] = a = 1;":          "[{let@8 x@20:secret int*[2] (=@29 a@27 1@31)}]",
		"int (*x)(int) = f;":                 "[{let@8 x@14:int(*)(int) f@24}]",
		"struct s x;":                        "[{let@8 x@17:struct s}]",
		"if (a) b;":                          "[{if@8 a@12 [{do@15 b@15}]}]",
		"if(a);else;":                        "[{if@8 a@11 [{empty@13} {empty@18}]}]",
		"if(a)if(b)c;else d;":                "[{if@8 a@11 [{if@13 b@16 [{do@18 c@18} {do@25 d@25}]}]}]",
		"if(a){if(b)c;}else d;":              "[{if@8 a@11 [{block@13 [{if@14 b@17 [{do@19 c@19}]}]} {do@27 d@27}]}]",
		"if(a)b;else if(c)d;else e;":         "[{if@8 a@11 [{do@13 b@13} {if@20 c@23 [{do@25 d@25} {do@32 e@32}]}]}]",
		"if(a)int x;":                        "[{if@8 a@11 [{let@13 x@17:int}]}]",
		"if(a=b);":                           "[{if@8 (=@12 a@11 b@13) [{empty@15}]}]",
		"while (a) b;":                       "[{while@8 a@15 [{do@18 b@18}]}]",
		"while(a)while(b);":                  "[{while@8 a@14 [{while@16 b@22 [{empty@24}]}]}]",
		"do a; while (b);":                   "[{until@8 b@21 [{do@11 a@11}]}]",
		"do do;while(a);while(b);":           "[{until@8 b@29 [{until@11 a@20 [{empty@13}]}]}]",
		"for(;;);":                           "[{for@8 [{empty@12} {empty@15}]}]",
		"for ( ; ; ) ;":                      "[{for@8 [{empty@14} {empty@20}]}]",
		"for(a;b;c)d;":                       "[{for@8 b@14 step c@16 [{do@12 a@12} {do@18 d@18}]}]",
		"for(a;;){}":                         "[{for@8 [{do@12 a@12} {block@16}]}]",
		"for(;a;);":                          "[{for@8 a@13 [{empty@12} {empty@16}]}]",
		"for(;;a);":                          "[{for@8 step a@14 [{empty@12} {empty@16}]}]",
		"for( int *i = 0; i<n; i++ ) break;": "[{for@8 (<@26 i@25 n@27) step (post++@31 i@30) [{let@13 i@18:int* 0@22} {break@36}]}]",
		"for(a=1;b=2;c=3);":                  "[{for@8 (=@17 b@16 2@18) step (=@21 c@20 3@22) [{do@12 (=@13 a@12 1@14)} {empty@24}]}]",
		"break;":                             "[{break@8}]",
		"continue;":                          "[{continue@8}]",
		"return;":                            "[{return@8}]",
		"return a = b;":                      "[{return@8 (=@17 a@15 b@19)}]",
		"a; ;return(1);":                     "[{do@8 a@8} {empty@11} {return@12 1@19}]",
		"a?b:c;":                             "[{do@8 (cond@9 a@8 b@10 c@12)}]",
	} {
		if got := showStmts(body(t, s)); got != want {
			t.Errorf("%q: %s, want %s", s, got, want)
		}
	}
}

func TestSwitches(t *testing.T) {
	for s, want := range map[string]string{
		"switch(a){}":                                           "{switch@8 a@15}",
		"switch (a=b) { case 1: }":                              "{switch@8 (=@17 a@16 b@18) case@23 1@28 []}",
		"switch(a){case 1:;break;}":                             "{switch@8 a@15 case@18 1@23 [{empty@25} {break@26}]}",
		"switch(a){case 1:case b?2:3:default:;}":                "{switch@8 a@15 case@18 1@23 (cond@31 b@30 2@32 3@34) default [{empty@44}]}",
		"switch(a){default:;case 1:;case 2:}":                   "{switch@8 a@15 case@18 default [{empty@26}] case@27 1@32 [{empty@34}] case@35 2@40 []}",
		"switch(a){default: case 1: x; default:;}":              "{switch@8 a@15 case@18 1@32 default [{do@35 x@35}] case@38 default [{empty@46}]}",
		"switch(a){case 1:switch(b){case 2:;default:}case 3:;}": "{switch@8 a@15 case@18 1@23 [{switch@25 b@32 case@35 2@40 [{empty@42}] case@43 default []}] case@52 3@57 [{empty@59}]}",
	} {
		if got := showStmts(body(t, s)); got != "["+want+"]" {
			t.Errorf("%q: %s, want %s", s, got, want)
		}
	}
}

func TestNoStatements(t *testing.T) {
	for _, s := range []string{
		"@)", "@]", "@else;", "@case 1:;", "@default:;", "a@", "a@}", "a;@", "{@", "{a;@", "{a@}", "int@;", "int x@}", "int x =@;", "int x =@{1};", "int x@,y;", "int x = 1@,y;", "int x@() {}", "int x@(int);", "int x = @= 1;", "int x[1]@{}",
		"if @a", "if(@)", "if(@;);", "if(a@;", "if(a@,b);", "if(@int x);", "if(a)@}", "if(a)@else;", "if(a);else@}", "if(a);else;@else;", "if(a){}else @else;", "@else",
		"while@;", "while(@)", "while(@int x);", "while(a@;", "while(a)@}", "do@}", "do;@}", "do;@;", "do while(a);@", "do;while@;", "do;while(@)", "do;while(a)@}", "do;while(a)@{}", "do a;@b;while(c);",
		"for@;", "for(@)", "for(a@)", "for(a@,b;;);", "for(;@)", "for(;a@)", "for(;;@;);", "for(;;a@;);", "for(;;)@}", "for(;@int x;);", "for(;;@int x);", "for(int@;;);", "for(int x@,y;;);", "for(int x=@;;);", "for(@{};;);", "for(@break;;);", "for(;;a@,b);",
		"break@}", "break @1;", "continue@}", "continue @a;", "return@}", "return@)", "return @int;", "return a@,b;", "return a@}", "return 1 @2;",
		"switch@;", "switch(@)", "switch(a)@;", "switch(a)@case 1:;", "switch(@int x){}", "switch(a){@;}", "switch(a){@{}}", "switch(a){@return;}", "switch(a){@a;}", "switch(a){@int x;}", "switch(a){@", "switch(a){@)", "switch(a){@1:}",
		"switch(a){case@:}", "switch(a){case 1@}", "switch(a){case 1@;}", "switch(a){case 1@=2:}", "switch(a){case 1@,2:}", "switch(a){case 1 @2:}", "switch(a){case a?b@;}", "switch(a){case @int:}", "switch(a){default@}", "switch(a){default @1:}", "switch(a){default@;}", "switch(a){case 1:@", "switch(a){case 1:;@", "switch(a){case 1:@)", "switch(a){case 1:{@case 2:;}}", "switch(a){case 1:if(b)@case 2:;}", "switch(a){case 1:@else;}",
		"struct s@{int x;};", "struct s@;", "int x@{}", "x @y z;",
	} {
		fails(t, "int f(){"+s, api.ErrParse)
	}
}
