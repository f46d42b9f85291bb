package narrow_test

import (
	"fmt"
	"strings"
	"testing"

	"narrow/narrow"
)

func checkPrune(t *testing.T, graph, pruned string, e narrow.Errno) {
	t.Helper()
	if gotPruned, gotE := narrow.Prune(graph); gotPruned != pruned || gotE != e {
		t.Errorf("P14: Prune(%q) = %q, %d, want %q, %d", graph, gotPruned, gotE, pruned, e)
	}
}

func TestPruneExampleOfTheDocument(t *testing.T) {
	checkPrune(t, "a=1,01;a:n,02,03;^a,04;!;", "a=1,01;*,02;^a,03;", narrow.OK)
}

func TestPruneErrors(t *testing.T) {
	checkPrune(t, strings.Repeat("x", 901), "", narrow.ErrLong)
	checkPrune(t, strings.Repeat("*,00;", 181), "", narrow.ErrLong)
	checkPrune(t, strings.Repeat("x", 900), "", narrow.ErrForm)
	checkPrune(t, strings.Repeat("!;", 91), "", narrow.ErrForm)
	checkPrune(t, "*,77;x", "", narrow.ErrForm)
	checkPrune(t, "!;*,03;", "", narrow.ErrLink)
	checkPrune(t, "!;a,00,03;", "", narrow.ErrLink)
}

func TestPruned(t *testing.T) {
	for _, c := range []struct{ graph, pruned string }{
		{"", ""},
		{"!;", "!;"},
		{"*,01;", "*,01;"},
		{"*,00;", "*,00;"},
		// Lines without a state are left out, ahead of, between and behind the others.
		{"*,02;!;^a,03;", "*,01;^a,02;"},
		{"*,02;!;^a,04;!;^b,06;!;", "*,01;^a,02;^b,03;"},
		{"!;^a,02;^b,03;", "!;"},
		{"*,03;^a,03;a=1,01;^b,04;", "*,01;^b,02;"},
		{"*,04;!;^a,05;!;^b,02;^c,07;!;", "*,02;^a,03;^b,01;^c,04;"},
		// A test that always goes one way.
		{"a,01,02;^a,02;", "*,01;"},
		{"a,01,02;!;^a,03;", "*,01;^a,02;"},
		{"a:z,01,02;^a,02;", "*,01;^a,02;"},
		{"a:n,00,01;^a,02;", "*,01;^a,02;"},
		{"a:n,01,00;!;", "*,00;"},
		{"a:z,00,01;!;", "*,00;"},
		{"a,01,01;^a,02;", "*,01;^a,02;"},
		{"a:z,01,01;^a,02;", "*,01;^a,02;"},
		{"a=T,01;a,02,03;^a,03;^b,04;", "a=T,01;*,02;^a,03;^b,04;"},
		{"a=F,01;a,02,03;^a,03;^b,04;", "a=F,01;*,02;^b,03;"},
		{"a=C,01;a,02,03;^a,03;!;", "a=C,01;*,02;^a,03;!;"},
		// A number can be 0 or not, whichever it is.
		{"a=1,01;a,02,03;^a,03;^b,04;", "a=1,01;a,02,03;^a,03;^b,04;"},
		{"a=0,01;a,02,02;^b,03;", "a=0,01;a,02,02;^b,03;"},
		// A test of which both ways are taken stays one, even if they lead to the same line.
		{"a=?,01;a,02,02;^b,03;", "a=?,01;a,02,02;^b,03;"},
		{"a=?,01;a:n,02,03;a:n,04,03;!;^a,05;", "a=?,01;a:n,02,03;*,04;!;^a,05;"},
		{"a=?,01;a:n,02,03;^a,04;a:n,05,04;a=a,01;!;", "a=?,01;a:n,02,03;^a,04;*,04;a=a,01;"},
		// Behind these nodes no state comes: their way leads to the end, wherever it led.
		{"a=+bc,00;", "a=+bc,01;"},
		{"^a,01;a=+bc,00;", "^a,01;a=+bc,02;"},
		{"^a,01;a=.b,02;^c,03;", "^a,01;a=.b,02;"},
		{"^a,01;a~n,01;", "^a,01;a~n,02;"},
		{"^a,02;!;a~C,00;!;", "^a,01;a~C,02;"},
		{"a=?,01;a:n,02,03;b=Ba,03;b=Aa,00;^c,00;", "a=?,01;a:n,02,03;b=Ba,04;b=Aa,04;"},
		// A state comes behind these, though not from every value.
		{"a=?,01;a~n,02;^a,00;", "a=?,01;a~n,02;^a,00;"},
		{"a=?,01;b=+aa,02;^b,03;", "a=?,01;b=+aa,02;^b,03;"},
		// The way to the end leads to the new end.
		{"a=?,01;a:n,02,05;b=1,04;!;b:n,00,05;", "a=?,01;a:n,02,04;b=1,03;*,00;"},
		{"a:n,01,02;!;", "*,01;"},
	} {
		checkPrune(t, c.graph, c.pruned, narrow.OK)
	}
}

// TestPruneOfManyLines: every second line is left out.
func TestPruneOfManyLines(t *testing.T) {
	graph, pruned := "", ""
	for i := 0; i < 90; i += 2 {
		graph += fmt.Sprintf("^a,%02d;!;", i+2)
		pruned += fmt.Sprintf("^a,%02d;", i/2+1)
	}
	checkPrune(t, graph, pruned, narrow.OK)
	whole := strings.Repeat("a:n,00,90;", 90)
	checkPrune(t, whole, "*,01;", narrow.OK)
}
