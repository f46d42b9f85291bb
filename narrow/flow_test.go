package narrow_test

import (
	"fmt"
	"strings"
	"testing"

	"narrow/narrow"
)

func checkFlow(t *testing.T, graph, table string, e narrow.Errno) {
	t.Helper()
	if gotTable, gotE := narrow.Flow(graph); gotTable != table || gotE != e {
		t.Errorf("P11 and P12: Flow(%q) = %q, %d, want %q, %d", graph, gotTable, gotE, table, e)
	}
}

func TestFlowExamplesOfTheDocument(t *testing.T) {
	checkFlow(t, "a=?,01;a:n,02,04;b=+aa,03;^b,05;^a,05;", "z.z.z.z.z.z.;ntfzABC.z.z.z.z.z.;n.z.z.z.z.z.;n.n.z.z.z.z.;tfzABC.z.z.z.z.z.;", narrow.OK)
	checkFlow(t, "a=1,01;a:n,02,03;^a,04;!;", "z.z.z.z.z.z.;n.z.z.z.z.z.;n.z.z.z.z.z.;?;", narrow.OK)
}

func TestFlowErrors(t *testing.T) {
	full := strings.Repeat("a:n,00,90;", 90)
	if table, e := narrow.Flow(full); strings.Count(table, ";") != 90 || e != narrow.OK {
		t.Errorf("P12: 900 bytes: %q, %d", table, e)
	}
	checkFlow(t, full+"x", "", narrow.ErrLong)
	checkFlow(t, strings.Repeat("x", 901), "", narrow.ErrLong)
	checkFlow(t, strings.Repeat("x", 900), "", narrow.ErrForm)
	checkFlow(t, strings.Repeat("!;", 91), "", narrow.ErrForm)
	checkFlow(t, strings.Repeat("*,99;", 91), "", narrow.ErrForm)
	checkFlow(t, strings.Repeat("*,91;", 90), "", narrow.ErrLink)
	checkFlow(t, "*,77;x", "", narrow.ErrForm)
	checkFlow(t, "!;*,03;", "", narrow.ErrLink)
	checkFlow(t, "!;a,00,03;", "", narrow.ErrLink)
	checkFlow(t, "*,01", "", narrow.ErrForm)
}

// behindEach are nodes and the state behind them, from one in which a and b can be of every kind and the others are null.
var behindEach = []struct{ node, state string }{
	{"*", "ntfzABC.ntfzABC.z.z.z.z."},
	{"^a", "ntfzABC.ntfzABC.z.z.z.z."},
	{"a=0", "n.ntfzABC.z.z.z.z."},
	{"b=9", "ntfzABC.n.z.z.z.z."},
	{"f=7", "ntfzABC.ntfzABC.z.z.z.n."},
	{"a=T", "t.ntfzABC.z.z.z.z."},
	{"a=F", "f.ntfzABC.z.z.z.z."},
	{"a=Z", "z.ntfzABC.z.z.z.z."},
	{"a=C", "C.ntfzABC.z.z.z.z."},
	{"a=?", "ntfzABC.ntfzABC.z.z.z.z."},
	{"c=?", "ntfzABC.ntfzABC.ntfzABC.z.z.z."},
	{"a=c", "z.ntfzABC.z.z.z.z."},
	{"c=a", "ntfzABC.ntfzABC.ntfzABC.z.z.z."},
	{"a=a", "ntfzABC.ntfzABC.z.z.z.z."},
	{"c=+ab", "n.n.n.z.z.z."},
	{"c=+aa", "n.ntfzABC.n.z.z.z."},
	{"a=+ab", "n.n.z.z.z.z."},
	{"b=+ab", "n.n.z.z.z.z."},
	{"a=+aa", "n.ntfzABC.z.z.z.z."},
	{"a=+bb", "n.n.z.z.z.z."},
	{"c=<ab", "n.n.tf.z.z.z."},
	{"c=<aa", "n.ntfzABC.tf.z.z.z."},
	{"a=<ab", "tf.n.z.z.z.z."},
	{"b=<ab", "n.tf.z.z.z.z."},
	{"a=<aa", "tf.ntfzABC.z.z.z.z."},
	{"c=Aa", "n.ntfzABC.A.z.z.z."},
	{"a=Aa", "A.ntfzABC.z.z.z.z."},
	{"c=Ba", "tfz.ntfzABC.B.z.z.z."},
	{"c=Bd", "ntfzABC.ntfzABC.B.z.z.z."},
	{"a=Ba", "B.ntfzABC.z.z.z.z."},
	{"c=.a", "AB.ntfzABC.ntfz.z.z.z."},
	{"a=.a", "ntfz.ntfzABC.z.z.z.z."},
	{"a=.b", "ntfz.AB.z.z.z.z."},
	{"a~n", "n.ntfzABC.z.z.z.z."},
	{"a~t", "t.ntfzABC.z.z.z.z."},
	{"a~f", "f.ntfzABC.z.z.z.z."},
	{"a~z", "z.ntfzABC.z.z.z.z."},
	{"a~A", "A.ntfzABC.z.z.z.z."},
	{"a~B", "B.ntfzABC.z.z.z.z."},
	{"a~C", "C.ntfzABC.z.z.z.z."},
	{"c~z", "ntfzABC.ntfzABC.z.z.z.z."},
	// Behind these no state comes, even if what is set is what had the wrong kinds.
	{"c~n", "?"},
	{"c=+ac", "?"},
	{"c=+ca", "?"},
	{"c=+cc", "?"},
	{"a=<bc", "?"},
	{"c=<cc", "?"},
	{"a=Ac", "?"},
	{"c=Ac", "?"},
	{"a=.c", "?"},
	{"c=.c", "?"},
}

func TestStatesBehindNodes(t *testing.T) {
	for _, c := range behindEach {
		graph := "a=?,01;b=?,02;" + c.node + ",03;*,04;"
		table := "z.z.z.z.z.z.;ntfzABC.z.z.z.z.z.;ntfzABC.ntfzABC.z.z.z.z.;" + c.state + ";"
		checkFlow(t, graph, table, narrow.OK)
	}
	checkFlow(t, "!;*,02;", "z.z.z.z.z.z.;?;", narrow.OK)
	// A record of one kind alone.
	checkFlow(t, "a=?,01;a~A,02;b=.a,03;*,04;", "z.z.z.z.z.z.;ntfzABC.z.z.z.z.z.;A.z.z.z.z.z.;A.n.z.z.z.z.;", narrow.OK)
	checkFlow(t, "a=?,01;a~B,02;b=.a,03;*,04;", "z.z.z.z.z.z.;ntfzABC.z.z.z.z.z.;B.z.z.z.z.z.;B.tfz.z.z.z.z.;", narrow.OK)
	checkFlow(t, "b=Ba,01;a=.b,02;*,03;", "z.z.z.z.z.z.;z.B.z.z.z.z.;tfz.B.z.z.z.z.;", narrow.OK)
	checkFlow(t, "a=C,01;b=Ba,02;*,03;", "z.z.z.z.z.z.;C.z.z.z.z.z.;?;", narrow.OK)
}

// TestStatesAlongTests: both ways of each test, of a variable that can be of every kind and of one that cannot.
func TestStatesAlongTests(t *testing.T) {
	for _, c := range []struct{ test, yes, no string }{
		{"a", "ntABC.z", "nfz.z"},
		{"a:n", "n.z", "tfzABC.z"},
		{"a:t", "t.z", "nfzABC.z"},
		{"a:f", "f.z", "ntzABC.z"},
		{"a:z", "z.z", "ntfABC.z"},
		{"a:A", "A.z", "ntfzBC.z"},
		{"a:B", "B.z", "ntfzAC.z"},
		{"a:C", "C.z", "ntfzAB.z"},
		{"b", "", "ntfzABC.z"},
		{"b:z", "ntfzABC.z", ""},
		{"b:n", "", "ntfzABC.z"},
	} {
		yes, no := c.yes+".z.z.z.z.", c.no+".z.z.z.z."
		if c.yes == "" {
			yes = "?"
		}
		if c.no == "" {
			no = "?"
		}
		checkFlow(t, "a=?,01;"+c.test+",02,03;*,04;*,04;", "z.z.z.z.z.z.;ntfzABC.z.z.z.z.z.;"+yes+";"+no+";", narrow.OK)
		checkFlow(t, "a=?,01;"+c.test+",03,02;*,04;*,04;", "z.z.z.z.z.z.;ntfzABC.z.z.z.z.z.;"+no+";"+yes+";", narrow.OK)
		// Both ways lead to one line, where all kinds come together again.
		checkFlow(t, "a=?,01;"+c.test+",02,02;*,03;", "z.z.z.z.z.z.;ntfzABC.z.z.z.z.z.;ntfzABC.z.z.z.z.z.;", narrow.OK)
	}
	for _, c := range []struct{ value, states string }{
		{"0", "n.z.z.z.z.z.;n.z.z.z.z.z.;n.z.z.z.z.z.;"},
		{"1", "n.z.z.z.z.z.;n.z.z.z.z.z.;n.z.z.z.z.z.;"},
		{"T", "t.z.z.z.z.z.;t.z.z.z.z.z.;?;"},
		{"F", "f.z.z.z.z.z.;?;f.z.z.z.z.z.;"},
		{"Z", "z.z.z.z.z.z.;?;z.z.z.z.z.z.;"},
		{"C", "C.z.z.z.z.z.;C.z.z.z.z.z.;?;"},
	} {
		checkFlow(t, "a="+c.value+",01;a,02,03;*,04;*,04;", "z.z.z.z.z.z.;"+c.states, narrow.OK)
	}
}

func TestTables(t *testing.T) {
	for _, c := range []struct{ graph, table string }{
		{"", ""},
		{"*,00;", "z.z.z.z.z.z.;"},
		{"!;", "z.z.z.z.z.z.;"},
		{"*,01;", "z.z.z.z.z.z.;"},
		// Line 0 has what runs begin with, and what comes back to it.
		{"a=1,00;", "nz.z.z.z.z.z.;"},
		{"b=a,01;a=?,00;", "ntfzABC.ntfzABC.z.z.z.z.;ntfzABC.ntfzABC.z.z.z.z.;"},
		{"*,01;f=T,02;e=f,00;", "z.z.z.z.tz.tz.;z.z.z.z.tz.tz.;z.z.z.z.tz.t.;"},
		// What comes to a line by several ways is joined variable by variable.
		{"c=?,01;c,02,04;a=1,03;b=T,06;a=C,05;b=F,06;a:n,07,08;*,09;*,09;", "z.z.z.z.z.z.;z.z.ntfzABC.z.z.z.;z.z.ntABC.z.z.z.;n.z.ntABC.z.z.z.;z.z.nfz.z.z.z.;C.z.nfz.z.z.z.;nC.tf.ntfzABC.z.z.z.;n.tf.ntfzABC.z.z.z.;C.tf.ntfzABC.z.z.z.;"},
		// From a line without a state nothing comes, and lines that only come to one another have none.
		{"*,03;a=1,03;a=T,03;*,04;", "z.z.z.z.z.z.;?;?;z.z.z.z.z.z.;"},
		{"*,03;a=1,02;*,01;*,04;", "z.z.z.z.z.z.;?;?;z.z.z.z.z.z.;"},
		{"!;a=1,01;", "z.z.z.z.z.z.;?;"},
		{"*,01;a=1,01;", "z.z.z.z.z.z.;nz.z.z.z.z.z.;"},
		// A loop that passes kinds on from variable to variable, one each time around.
		{"a=?,01;f=e,02;e=d,03;d=c,04;c=b,05;b=a,06;b:t,01,07;!;", "z.z.z.z.z.z.;ntfzABC.tz.tz.tz.tz.tz.;ntfzABC.tz.tz.tz.tz.tz.;ntfzABC.tz.tz.tz.tz.tz.;ntfzABC.tz.tz.tz.tz.tz.;ntfzABC.tz.tz.tz.tz.tz.;ntfzABC.ntfzABC.tz.tz.tz.tz.;ntfzABC.nfzABC.tz.tz.tz.tz.;"},
		// A state comes only once other kinds have come around the loop.
		{"a:n,02,01;a=4,00;b=Aa,03;b=.b,04;^b,05;", "nz.z.z.z.z.z.;z.z.z.z.z.z.;n.z.z.z.z.z.;n.A.z.z.z.z.;n.n.z.z.z.z.;"},
		{"*,01;b=+ab,02;a=1,01;", "z.z.z.z.z.z.;z.z.z.z.z.z.;?;"},
		{"c=?,01;c:n,02,03;a=1,04;b=1,04;d=+ab,05;^d,06;", "z.z.z.z.z.z.;z.z.ntfzABC.z.z.z.;z.z.n.z.z.z.;z.z.tfzABC.z.z.z.;nz.nz.ntfzABC.z.z.z.;n.n.ntfzABC.n.z.z.;"},
	} {
		checkFlow(t, c.graph, c.table, narrow.OK)
	}
}

// TestLongWays: a way through all lines, in the order of the lines and against it, ahead of which kinds change once more.
func TestLongWays(t *testing.T) {
	there, back := "a=1,01;", "a=1,89;"
	tableThere, tableBack := "nz.z.z.z.z.z.;", "nz.z.z.z.z.z.;"
	for i := 1; i < 90; i++ {
		there += fmt.Sprintf("*,%02d;", (i+1)%90)
		back += fmt.Sprintf("*,%02d;", i-1)
		tableThere += "n.z.z.z.z.z.;"
		tableBack += "n.z.z.z.z.z.;"
	}
	checkFlow(t, there, tableThere, narrow.OK)
	checkFlow(t, back, tableBack, narrow.OK)
	back = "a=b,89;b=c,00;c=d,01;d=e,02;e=f,03;f=?,04;"
	for i := 6; i < 90; i++ {
		back += fmt.Sprintf("*,%02d;", i-1)
	}
	all := strings.Repeat("ntfzABC.", 6) + ";"
	checkFlow(t, back, strings.Repeat(all, 90), narrow.OK)
}
