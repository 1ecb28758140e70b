package tock_test

import (
	"math/rand"
	"regexp"
	"slices"
	"strconv"
	"strings"
	"testing"

	"tock/tock"
)

const every = "* * * * *"

type fault struct {
	text string
	at   int
}

func TestP3Good(t *testing.T) {
	for _, zone := range goodZones {
		if e, at := tock.Check(zone, every); e != tock.OK || at != 0 {
			t.Errorf("Check(%q, ..) = %d, %d", zone, e, at)
		}
	}
	for _, fields := range goodFields {
		if e, at := tock.Check(place, fields); e != tock.OK || at != 0 {
			t.Errorf("Check(.., %q) = %d, %d", fields, e, at)
		}
	}
}

func TestP3Long(t *testing.T) {
	hundred := "0" + strings.Repeat(",0", 45) + ",0 * * * *"
	if len(hundred) != 101 {
		t.Fatalf("the test's own text has %d bytes", len(hundred))
	}
	for _, c := range []struct {
		zone, fields string
		e            tock.Errno
		at           int
	}{
		{place, hundred, tock.ErrLong, 0},
		{place, strings.Replace(hundred, "0,0", "10", 1), tock.OK, 0},
		{place + strings.Repeat(" ", 67), every, tock.ErrLong, 0},
		{place + strings.Repeat(" ", 66), every, tock.ErrZone, 34},
		{strings.Repeat("é", 51), every, tock.ErrLong, 0},
		{strings.Repeat("é", 50), every, tock.ErrZone, 0},
	} {
		if e, at := tock.Check(c.zone, c.fields); e != c.e || at != c.at {
			t.Errorf("Check(%q, %q) = %d, %d, want %d, %d", c.zone, c.fields, e, at, c.e, c.at)
		}
	}
}

func TestP3ZoneFaults(t *testing.T) {
	for _, c := range []fault{
		// A byte that cannot stand there.
		{"01:00", 0}, {" +01:00", 0}, {"+x1:00", 1}, {"+1:00", 2}, {"+01.00", 3}, {"+01:0x", 5},
		{"+01:000", 6}, {"+01:00x", 6}, {"+01:00  60", 7}, {"+01:00 -1", 7}, {"+01:00 x", 7},
		{"+01:00 60x", 9}, {"+01:00 60 x", 10}, {"+01:00 60 3,5", 11}, {"+01:00 60 3.x", 12},
		{"+01:00 60 3.5@", 13}, {"+01:00 60 3.5.x", 14}, {"+01:00 60 3.5.0.", 15},
		{"+01:00 60 3.5.0@2:00", 17}, {"+01:00 60 3.5.0@002:00", 18}, {"+01:00 60 3.5.0@02:000", 21},
		{"+01:00 60 3.5.0@02:00x", 21}, {place + " ", 34}, {place + "0", 34}, {place + "\x00", 34},
		// A number.
		{"+01:00 0", 7}, {"+01:00 00", 7}, {"+01:00 060", 7}, {"+01:00 121", 7}, {"+01:00 1000x", 7},
		{"+01:00 60 0.", 10}, {"+01:00 60 13.", 10}, {"+01:00 60 03.", 10}, {"+01:00 60 0003", 10},
		{"+01:00 60 3.0.", 12}, {"+01:00 60 3.6.", 12}, {"+01:00 60 3.05", 12},
		{"+01:00 60 3.5.7@", 14}, {"+01:00 60 3.5.00@", 14},
		{"+01:00 60 3.5.0@02:00 13.5.0@03:00", 22}, {"+01:00 60 3.5.0@02:00 10.6.0@03:00", 25},
		{"+01:00 60 3.5.0@02:00 10.5.7@03:00", 27},
		// A time and an offset.
		{"+14:01", 0}, {"-14:01", 0}, {"+15:00", 0}, {"+01:60", 0}, {"-99:99x", 0},
		{"+01:00 60 3.5.0@01:59", 16}, {"+01:00 60 3.5.0@22:00", 16}, {"+01:00 60 3.5.0@02:60", 16},
		{"+01:00 60 3.5.0@20:60", 16}, {"+01:00 60 3.5.0@01:59x", 16},
		{"+01:00 60 3.5.0@02:00 10.5.0@01:59", 29}, {"+01:00 60 3.5.0@02:00 10.5.0@22:00", 29},
		// Too early an end.
		{"", 0}, {"+", 1}, {"+01:0", 5}, {"+15:0", 5}, {"+01:00 ", 7}, {"+01:00 60", 9}, {"+01:00 60 ", 10},
		{"+01:00 60 3.5.0@02:00", 21}, {"+01:00 60 3.5.0@02:00 ", 22}, {place[:33], 33},
		// One month.
		{"+01:00 60 3.5.0@02:00 3.1.0@03:00", 22}, {"+01:00 6 10.5.0@02:00 10.1.0@03:00", 22},
		{"+01:00 60 3.5.0@02:00 3.1.0@03:00 ", 33}, {"+01:00 60 3.5.0@02:00 3.1.0@03", 30},
		{"+01:00 60 3.5.0@02:00 3.1.0@22:00", 28},
	} {
		for _, fields := range []string{every, "", "x"} {
			if e, at := tock.Check(c.text, fields); e != tock.ErrZone || at != c.at {
				t.Errorf("Check(%q, %q) = %d, %d, want %d, %d", c.text, fields, e, at, tock.ErrZone, c.at)
			}
		}
	}
}

func TestP3FieldsFaults(t *testing.T) {
	for _, c := range []fault{
		// A byte that cannot stand there.
		{" * * * * *", 0}, {"x", 0}, {",1", 0}, {"-1", 0}, {"**", 1}, {"*,1", 1}, {"*-5", 1}, {"*5", 1},
		{"1/2", 1}, {"1x", 1}, {"1,,2", 2}, {"1, *", 2}, {"1-*", 2}, {"1- *", 2}, {"*/*", 2}, {"*/ *", 2},
		{"1-2-3", 3}, {"1-2/x", 4}, {"1-2/3/4", 5}, {"1-2/3-4", 5}, {"*/2/3", 3}, {"*/2,3", 3},
		{"*  * * * *", 2}, {"*\t* * * *", 1}, {"* * * * * ", 9}, {"* * * * * *", 9}, {"* * * * 1 ", 9},
		// A number.
		{"60", 0}, {"00", 0}, {"07", 0}, {"100x", 0}, {"1,60", 2}, {"1-60", 2}, {"1-02", 2}, {"1-002", 2},
		{"* 24", 2}, {"* * 0", 4}, {"* * 32", 4}, {"* * * 0", 6}, {"* * * 13", 6}, {"* * * * 7", 8},
		{"* * * * 0-7", 10}, {"* * * * 0,7", 10},
		// A b below its a, and steps.
		{"5-4", 2}, {"10-9", 3}, {"1,5-4", 4}, {"5-4/0", 2}, {"*/0", 2}, {"*/00", 2}, {"*/05", 2}, {"*/100", 2},
		{"1-2/0", 4}, {"1-2/100", 4}, {"* * * 1-2/0 *", 10},
		// Too early an end.
		{"", 0}, {"*", 1}, {"* ", 2}, {"1-", 2}, {"*/", 2}, {"1,", 2}, {"* * * *", 7}, {"* * * * ", 8},
		{"* * * * 1-", 10}, {"* * * * */", 10}, {"* * * * 1,", 10},
	} {
		if e, at := tock.Check(place, c.text); e != tock.ErrFields || at != c.at {
			t.Errorf("Check(.., %q) = %d, %d, want %d, %d", c.text, e, at, tock.ErrFields, c.at)
		}
	}
}

var goodZones = []string{
	"+00:00", "-00:00", "+14:00", "-14:00", "+13:59", place,
	"+14:00 1 1.1.0@02:00 12.5.6@21:59", "-03:30 120 10.4.6@21:59 2.3.3@02:00",
}

var goodFields = []string{
	every, "0 0 1 1 0", "59 23 31 12 6", "5-5 0 1 1 0", "*/99 */1 */31 */12 */7",
	"*/99 0-23/23 1,2,31 1-12/11 0,6", "1,1,0-59/99 0-0,23-23 1-31/1,5 12,1 0-6/6",
}

// What follows tells a fault's place in a second way: a byte can stand where
// it does if some text that begins so is one, but for its numbers' values;
// and the values are looked at apart from that.

const (
	oneRule  = `\d+\.\d+\.\d+@\d\d:\d\d`
	oneItem  = `\d+(-\d+(/\d+)?)?`
	oneField = `(\*(/\d+)?|` + oneItem + `(,` + oneItem + `)*)`
)

var (
	zoneShape   = regexp.MustCompile(`^[+-]\d\d:\d\d( \d+ ` + oneRule + ` ` + oneRule + `)?$`)
	fieldsShape = regexp.MustCompile(`^` + oneField + strings.Repeat(` `+oneField, 4) + `$`)
	zoneValues  = optional(`([+-]\d\d:\d\d)`, ` (\d+)`,
		` (\d+)`, `\.(\d+)`, `\.(\d+)`, `@(\d\d:\d\d)`, ` (\d+)`, `\.(\d+)`, `\.(\d+)`, `@(\d\d:\d\d)`)
	digits = regexp.MustCompile(`\d+`)
)

// optional matches as many of the parts as stand there, in their order.
func optional(parts ...string) *regexp.Regexp {
	all := ""
	for _, part := range slices.Backward(parts) {
		all = "(?:" + part + all + ")?"
	}
	return regexp.MustCompile("^" + all)
}

// shapeFault tells the length of the longest beginning that some text has
// which is whole, with the sample's end behind it; or -1.
func shapeFault(shape *regexp.Regexp, sample, text string) int {
	canGoOn := func(head string) bool {
		for i := range sample {
			if shape.MatchString(head + sample[i:]) {
				return true
			}
		}
		return shape.MatchString(head)
	}
	for i := range len(text) {
		if !canGoOn(text[:i+1]) {
			return i
		}
	}
	if shape.MatchString(text) {
		return -1
	}
	return len(text)
}

func goodNumber(text string, digits, least, most int) bool {
	n, err := strconv.Atoi(text)
	return err == nil && len(text) <= digits && strconv.Itoa(n) == text && n >= least && n <= most
}

func goodValue(which int, text string) bool {
	switch which {
	case 0:
		return text[4] < '6' && text[1:] <= "14:00"
	case 1:
		return goodNumber(text, 3, 1, 120)
	case 2, 6:
		return goodNumber(text, 3, 1, 12)
	case 3, 7:
		return goodNumber(text, 3, 1, 5)
	case 4, 8:
		return goodNumber(text, 3, 0, 6)
	default:
		return text[3] < '6' && text >= "02:00" && text <= "21:59"
	}
}

func zoneFault(zone string) int {
	at := shapeFault(zoneShape, "+00:00 1 1.1.0@02:00 2.1.0@02:00", zone)
	head := zone
	if at >= 0 {
		head = zone[:at]
	}
	found := zoneValues.FindStringSubmatchIndex(head)
	value := func(which int) (string, int) {
		from, to := found[2+2*which], found[3+2*which]
		if from < 0 {
			return "", -1
		}
		return head[from:to], from
	}
	for which := range 10 {
		if text, from := value(which); from >= 0 && !goodValue(which, text) {
			return from
		}
	}
	first, _ := value(2)
	second, from := value(6)
	if at < 0 && from >= 0 && first == second {
		return from
	}
	return at
}

func itemFault(item string, least, most int) int {
	a := -1
	for i, found := range digits.FindAllStringIndex(item, -1) {
		text := item[found[0]:found[1]]
		low, high := least, most
		switch i {
		case 1:
			low = a
		case 2:
			low, high = 1, 99
		}
		if !goodNumber(text, 2, low, high) {
			return found[0]
		}
		a, _ = strconv.Atoi(text)
	}
	return -1
}

func fieldsFault(fields string) int {
	at := shapeFault(fieldsShape, "0 0 0 0 0", fields)
	head := fields
	if at >= 0 {
		head = fields[:at]
	}
	start := 0
	for i, field := range strings.Split(head, " ") {
		least, most := []int{0, 0, 1, 1, 0}[i], []int{59, 23, 31, 12, 6}[i]
		if strings.HasPrefix(field, "*") {
			least, most = 1, 99
		}
		for item := range strings.SplitSeq(field, ",") {
			if bad := itemFault(item, least, most); bad >= 0 {
				return start + bad
			}
			start += len(item) + 1
		}
	}
	return at
}

// changes hands out a text with one byte changed, left out or put in, in
// every way, and all of its beginnings.
func changes(text string, use func(string)) {
	const bytes = "0123456789+-:.@ */,x\x00\xc3"
	for i := 0; i <= len(text); i++ {
		use(text[:i])
		for _, b := range []byte(bytes) {
			use(text[:i] + string([]byte{b}) + text[i:])
			if i < len(text) {
				use(text[:i] + string([]byte{b}) + text[i+1:])
			}
		}
		if i < len(text) {
			use(text[:i] + text[i+1:])
		}
	}
}

func compare(t *testing.T, zone, fields string, e tock.Errno, at int) {
	t.Helper()
	if at < 0 {
		e, at = tock.OK, 0
	}
	if gotE, gotAt := tock.Check(zone, fields); gotE != e || gotAt != at {
		t.Errorf("Check(%q, %q) = %d, %d, want %d, %d", zone, fields, gotE, gotAt, e, at)
	}
}

func TestP3EveryChange(t *testing.T) {
	for _, zone := range goodZones {
		changes(zone, func(z string) { compare(t, z, every, tock.ErrZone, zoneFault(z)) })
	}
	for _, fields := range goodFields {
		changes(fields, func(f string) { compare(t, place, f, tock.ErrFields, fieldsFault(f)) })
	}
}

func TestP3SeveralChanges(t *testing.T) {
	source := rand.New(rand.NewSource(1))
	spoil := func(text string) string {
		for range 1 + source.Intn(3) {
			i := source.Intn(len(text))
			b := "0123456789+-:.@ */,"[source.Intn(19)]
			text = text[:i] + string([]byte{b}) + text[i+source.Intn(2):]
		}
		return text
	}
	for range 3000 {
		zone := spoil(goodZones[source.Intn(len(goodZones))])
		compare(t, zone, every, tock.ErrZone, zoneFault(zone))
		fields := spoil(goodFields[source.Intn(len(goodFields))])
		compare(t, place, fields, tock.ErrFields, fieldsFault(fields))
	}
}
