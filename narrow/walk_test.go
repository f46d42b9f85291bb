package narrow_test

import (
	"fmt"
	"math"
	"strings"
	"testing"

	"narrow/narrow"
)

func checkWalks(t *testing.T, promise string, examples []example) {
	t.Helper()
	for _, c := range examples {
		told, out, e := narrow.Walk(c.source, c.input, c.fuel)
		if told != c.told || out != c.out || e != c.e {
			t.Errorf("%s: Walk(%q, %q, %d) = %q, %q, %d, want %q, %q, %d", promise, c.source, c.input, c.fuel, told, out, e, c.told, c.out, c.e)
		}
	}
}

// TestWalkExamplesOfTheDocument: the document's runs, by the graph of their source.
func TestWalkExamplesOfTheDocument(t *testing.T) {
	graph := "a=?,01;a:n,02,04;b=+aa,03;^b,05;^a,05;"
	checkWalks(t, "P10", []example{
		{graph, "7", 9, "00zzzzzz 01nzzzzz 02nzzzzz 03nnzzzz ", "14 ", narrow.OK},
		{graph, "7", 2, "00zzzzzz 01nzzzzz ", "", narrow.ErrFuel},
		{graph, "T", 9, "00zzzzzz 01tzzzzz 04tzzzzz ", "T ", narrow.OK},
	})
}

func TestWalkLimits(t *testing.T) {
	lines := func(line string, count int) string { return strings.Repeat(line, count) }
	for _, c := range []struct {
		graph, input string
		fuel         int
		e            narrow.Errno
	}{
		{lines("a:n,00,90;", 90), "", 0, narrow.ErrFuel},
		{lines("a:n,00,90;", 90), "", 1, narrow.OK},
		{lines("a:n,00,90;", 90) + "x", "", 1, narrow.ErrLong},
		{lines("a:n,00,90;", 91), "", 1, narrow.ErrLong},
		{lines("x", 900), "", 1, narrow.ErrForm},
		{lines("x", 901), "", 1, narrow.ErrLong},
		{lines("!;", 90), "", 1, narrow.ErrNever},
		{lines("!;", 91), "", 1, narrow.ErrForm},
		{lines("!;", 90) + "x", "", 1, narrow.ErrForm},
		{lines("!;", 450), "", 1, narrow.ErrForm},
		{lines("*,99;", 90), "", 1, narrow.ErrLink},
		{lines("*,99;", 91), "", 1, narrow.ErrForm},
		{"", lines("1", 40), 0, narrow.OK},
		{"", lines("1", 41), 0, narrow.ErrLong},
		{"", "", 0, narrow.OK},
		{"", "", 300, narrow.OK},
		{"", "", 301, narrow.ErrLong},
		{"", "", -1, narrow.ErrLong},
		{"", "", math.MaxInt, narrow.ErrLong},
		{"", "", math.MinInt, narrow.ErrLong},
		{"x", lines("1", 41), 0, narrow.ErrLong},
		{"x", "", -1, narrow.ErrLong},
		{"x", "", 301, narrow.ErrLong},
		{"*,77;", "", 301, narrow.ErrLong},
		{"*,77;x", "", 300, narrow.ErrForm},
		{"!;*,77;", "", 0, narrow.ErrLink},
	} {
		told, out, e := narrow.Walk(c.graph, c.input, c.fuel)
		if e != c.e {
			t.Errorf("P9: Walk of %d bytes (%.20q), %d of input, fuel %d: %d, want %d", len(c.graph), c.graph, len(c.input), c.fuel, e, c.e)
		}
		if e <= narrow.ErrLink && e != narrow.OK && told+out != "" {
			t.Errorf("P1: Walk of %d bytes (%.20q): %q, %q with the error %d", len(c.graph), c.graph, told, out, e)
		}
	}
}

// TestLinks: ways to each number, of graphs of several lengths.
func TestLinks(t *testing.T) {
	for _, lines := range []int{1, 2, 9, 10, 11, 50, 89, 90} {
		for to := 0; to < 100; to++ {
			way := fmt.Sprintf(",%02d", to)
			for _, line := range []string{"*" + way + ";", "^a" + way + ";", "a" + way + ",00;", "a,00" + way + ";", "a:n" + way + way + ";"} {
				for _, graph := range []string{line + strings.Repeat("!;", lines-1), strings.Repeat("!;", lines-1) + line} {
					told, out, e := narrow.Walk(graph, "", 0)
					want := narrow.ErrFuel
					if to > lines {
						want = narrow.ErrLink
					}
					if told+out != "" || e != want {
						t.Errorf("P9: Walk(%q) = %q, %q, %d, want %d", graph, told, out, e, want)
					}
				}
			}
		}
	}
}

func TestGraphForms(t *testing.T) {
	for _, node := range strings.Fields("* a=0 f=9 b=T c=F d=Z e=C a=? a=f b=+cd e=<fa a=Aa b=Bc c=.d ^a ^f a~n b~t c~f d~z e~A f~B a~C") {
		checkGraphForm(t, true, node+",01;", node+",00;", "!;"+node+",02;", node+",99;")
		checkGraphForm(t, false, node, node+";", node+",;", node+",0;", node+",1;", node+",001;", node+",01", node+",01,01;", node+",01;;", node+"01;", node+", 01;", node+",0x;", node+",x0;", node+",-1;", node+",01,;", " "+node+",01;", node+" ,01;", node+",01;\n", node+",01;"+node)
	}
	for _, test := range strings.Fields("a f a:n b:t c:f d:z e:A f:B a:C") {
		checkGraphForm(t, true, test+",01,01;", test+",00,01;", "!;"+test+",02,01;", test+",99,00;")
		checkGraphForm(t, false, test, test+";", test+",01;", test+",01,;", test+",01,1;", test+",01,001;", test+",01,01", test+",01,01,01;", test+",01,01;;", test+",01;01;", "!"+test+",00,01;", test+",01 ,01;")
	}
	checkGraphForm(t, true, "", "!;", "!;!;")
	checkGraphForm(t, false, "!", "!,00;", "!,01;", "!,00,00;", ";", "!;;", ",00;", ",00,00;", "**,01;", "*", "*a,01;", "a*,01;", "g,00,00;", "a:,00,00;", "a:a,00,00;", "a:T,00,00;", "a:nn,00,00;", "ab,00,00;",
		"a=,01;", "a=g,01;", "a=+a,01;", "a=12,01;", "a=t,01;", "a~,01;", "a~T,01;", "^,01;", "^g,01;", "&ab,00,01;", ">,00;", "<,00;", ">;", "[a{}]", "(a{}{})", "\x00", "!;\x00", "a\x00,00,00;", "\xff", "é")
}

func checkGraphForm(t *testing.T, isGraph bool, texts ...string) {
	t.Helper()
	for _, text := range texts {
		told, out, e := narrow.Walk(text, "", 0)
		if (e == narrow.ErrForm) == isGraph || told+out != "" {
			t.Errorf("P9: Walk(%q) answers %q, %q, %d", text, told, out, e)
		}
	}
}

func TestWalks(t *testing.T) {
	checkWalks(t, "P10", []example{
		{"", "", 0, "", "", narrow.OK},
		{"*,01;", "", 0, "", "", narrow.ErrFuel},
		{"*,01;", "", 1, "00zzzzzz ", "", narrow.OK},
		{"*,02;!;", "", 1, "00zzzzzz ", "", narrow.OK},
		{"*,00;", "", 2, "00zzzzzz 00zzzzzz ", "", narrow.ErrFuel},
		{"!;", "", 0, "", "", narrow.ErrFuel},
		{"!;", "", 1, "00zzzzzz ", "", narrow.ErrNever},
		{"!;^a,02;", "", 9, "00zzzzzz ", "", narrow.ErrNever},
		{"a~n,01;", "", 9, "00zzzzzz ", "", narrow.ErrCast},
		{"a~z,01;", "", 9, "00zzzzzz ", "", narrow.OK},
		{"a=.b,01;", "", 9, "00zzzzzz ", "", narrow.ErrKind},
		// A node that does nothing changes no variable and takes every kind.
		{"a=?,01;*,02;^a,03;", "C", 9, "00zzzzzz 01Czzzzz 02Czzzzz ", "C ", narrow.OK},
		{"a=?,01;*,02;^a,03;", "5", 9, "00zzzzzz 01nzzzzz 02nzzzzz ", "5 ", narrow.OK},
		// Lines are walked as their ways say, not as they stand.
		{"*,03;^a,04;^b,01;a=7,02;", "", 9, "00zzzzzz 03zzzzzz 02nzzzzz 01nzzzzz ", "Z 7 ", narrow.OK},
		{"a=?,01;a,00,02;^a,03;", "12F", 9, "00zzzzzz 01nzzzzz 00nzzzzz 01nzzzzz 00nzzzzz 01fzzzzz 02fzzzzz ", "F ", narrow.OK},
		{"a,00,01;b=T,02;b:t,03,00;^b,04;", "", 9, "00zzzzzz 01zzzzzz 02ztzzzz 03ztzzzz ", "T ", narrow.OK},
		{"^a,01;b=?,02;^b,03;c=+bb,01;", "45", 9, "00zzzzzz 01zzzzzz 02znzzzz 03znzzzz 01znnzzz 02znnzzz 03znnzzz 01znnzzz 02zznzzz ", "Z 4 5 Z ", narrow.ErrFuel},
		{"^a,01;b=?,02;^b,03;c=+bb,01;", "4", 99, "00zzzzzz 01zzzzzz 02znzzzz 03znzzzz 01znnzzz 02zznzzz 03zznzzz ", "Z 4 Z ", narrow.ErrKind},
	})
}

// TestWalksOfEachValue: each test and each cast at values of each kind.
func TestWalksOfEachValue(t *testing.T) {
	inputs, signs := "01TFZABC", "nntfzABC"
	for i := range inputs {
		input, sign := inputs[i:i+1], signs[i]
		_, out, e := narrow.Walk("e=?,01;e,02,04;f=T,03;^f,04;", input, 9)
		if e != narrow.OK || (out == "T ") != strings.Contains("1TABC", input) {
			t.Errorf("P10: a test of %s: %q, %d", input, out, e)
		}
		for k := range "ntfzABC" {
			kind := "ntfzABC"[k]
			_, out, e := narrow.Walk(fmt.Sprintf("e=?,01;e:%c,02,04;f=T,03;^f,04;", kind), input, 9)
			if e != narrow.OK || (out == "T ") != (sign == kind) {
				t.Errorf("P10: is %s of kind %c: %q, %d", input, kind, out, e)
			}
			_, out, e = narrow.Walk(fmt.Sprintf("e=?,01;e~%c,02;^f,03;", kind), input, 9)
			if (e == narrow.OK && out == "Z ") != (sign == kind) || (e == narrow.ErrCast && out == "") != (sign != kind) {
				t.Errorf("P10: a %c asked for, %s met: %q, %d", kind, input, out, e)
			}
		}
	}
}

func compareWalks(t *testing.T, graph, input string, fuel int) narrow.Errno {
	t.Helper()
	told, out, e := narrow.Walk(graph, input, fuel)
	wantTold, wantOut, wantE := walkSecond(graph, input, fuel)
	if told != wantTold || out != wantOut || e != wantE {
		t.Fatalf("P9 and P10: Walk(%q, %q, %d) = %q, %q, %d, want %q, %q, %d", graph, input, fuel, told, out, e, wantTold, wantOut, wantE)
	}
	if (wrongPlace(graphs, graph) < 0 && strings.Count(graph, ";") <= 90) != (e != narrow.ErrForm) {
		t.Fatalf("P9: Walk(%q, ..) answers %d", graph, e)
	}
	return e
}

// TestWalkSecondWay: graphs, and the same with a byte changed, left out or put in,
// or with one more line whose ways may lead too far.
func TestWalkSecondWay(t *testing.T) {
	d := dice{5}
	count := map[narrow.Errno]int{}
	for i := 0; i < 20000; i++ {
		lines := d.below(12)
		if i%50 == 0 {
			lines = 85 + d.below(8)
		}
		graph := d.graph(lines)
		switch d.below(8) {
		case 0, 1:
			graph = d.damaged(graph)
		case 2:
			graph += d.line(lines + 3)
		}
		if len(graph) > 900 {
			continue
		}
		input := d.text("00123456789TTFFZZAABBCCx ", d.below(12))
		count[compareWalks(t, graph, input, d.below(60))]++
	}
	for _, e := range []narrow.Errno{narrow.OK, narrow.ErrForm, narrow.ErrLink, narrow.ErrFuel, narrow.ErrKind, narrow.ErrNever, narrow.ErrCast} {
		if count[e] < 100 {
			t.Errorf("only %d walks ended by %d", count[e], e)
		}
	}
}

// TestWalkOfEachByte: every byte at every place of a graph, and the graph cut off there.
func TestWalkOfEachByte(t *testing.T) {
	graph := "a=?,01;a:n,02,04;*,03;b=+aa,06;!;f~t,00;c=.d,09;e,02,09;^f,09;"
	for at := range graph {
		compareWalks(t, graph[:at], "1", 9)
		compareWalks(t, graph[at:], "1", 9)
		for b := 0; b < 256; b++ {
			compareWalks(t, graph[:at]+string([]byte{byte(b)})+graph[at+1:], "1", 9)
			compareWalks(t, graph[:at]+string([]byte{byte(b)})+graph[at:], "1", 9)
		}
	}
}
