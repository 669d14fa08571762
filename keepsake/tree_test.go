package keepsake_test

import (
	"math/rand"
	"regexp"
	"slices"
	"strconv"
	"strings"
	"testing"
	"unsafe"

	"keepsake/keepsake"
)

// listed goes through all of a directory: "name:size" of a file, "name/" of a directory.
func listed(a *keepsake.Archive, n int, path string) ([]string, error) {
	var all []string
	for e, err := range a.List(n, path) {
		switch {
		case err != nil:
			return nil, err
		case e.Dir && e.Size == 0:
			all = append(all, e.Name+"/")
		case e.Dir:
			all = append(all, e.Name+"/ has a size")
		default:
			all = append(all, e.Name+":"+strconv.Itoa(e.Size))
		}
	}
	return all, nil
}

func wantEntries(t *testing.T, a *keepsake.Archive, n int, path string, want ...string) {
	t.Helper()
	if got, err := listed(a, n, path); !slices.Equal(got, want) || err != nil {
		t.Errorf("P11: List(%d, %q): %q %v, want %q", n, path, got, err, want)
	}
}

func wantFile(t *testing.T, a *keepsake.Archive, n int, path, want string) {
	t.Helper()
	if got, err := a.Read(n, path); got != want || err != nil {
		t.Errorf("P11: Read(%d, %q): %q %v, want %q", n, path, got, err, want)
	}
}

func wantReadError(t *testing.T, a *keepsake.Archive, n int, path string, want error) {
	t.Helper()
	text, err := a.Read(n, path)
	wantError(t, "P11: Read("+strconv.Itoa(n)+", "+strconv.Quote(path)+")", err, want)
	if text != "" {
		t.Errorf("P1: %q beside an error", text)
	}
}

// wantListError tells that an error is told once, with an empty Entry, whatever yield answers.
func wantListError(t *testing.T, a *keepsake.Archive, n int, path string, want error) {
	t.Helper()
	for _, goOn := range []bool{true, false} {
		told := 0
		a.List(n, path)(func(e keepsake.Entry, err error) bool {
			told++
			wantError(t, "P11: List of "+strconv.Quote(path), err, want)
			if e != (keepsake.Entry{}) {
				t.Errorf("P11: %v beside an error", e)
			}
			return goOn
		})
		if told != 1 {
			t.Errorf("P11: List of %q tells an error %d times", path, told)
		}
	}
}

func put(t *testing.T, a *keepsake.Archive, path, data string) {
	t.Helper()
	wantError(t, "P6: Write("+strconv.Quote(path)+")", a.Write(path, data), nil)
}

func mkdir(t *testing.T, a *keepsake.Archive, path string) {
	t.Helper()
	wantError(t, "P6: Mkdir("+strconv.Quote(path)+")", a.Mkdir(path), nil)
}

func remove(t *testing.T, a *keepsake.Archive, path string) {
	t.Helper()
	wantError(t, "P6: Remove("+strconv.Quote(path)+")", a.Remove(path), nil)
}

// wantNoPath tells that every call refuses a path, ahead of all else.
func wantNoPath(t *testing.T, a *keepsake.Archive, path string) {
	t.Helper()
	quoted := strconv.QuoteToASCII(path)
	wantError(t, "P5: Write of "+quoted, a.Write(path, "x"), keepsake.ErrPath)
	wantError(t, "P6: Write of too much at "+quoted, a.Write(path, strings.Repeat("x", 1537)), keepsake.ErrPath)
	wantError(t, "P5: Mkdir of "+quoted, a.Mkdir(path), keepsake.ErrPath)
	wantError(t, "P5: Remove of "+quoted, a.Remove(path), keepsake.ErrPath)
	wantReadError(t, a, 0, path, keepsake.ErrPath)
	wantListError(t, a, 0, path, keepsake.ErrPath)
}

func TestTreeOfExample5(t *testing.T) {
	a := emptyArchive(t)
	wantError(t, "P6: Write", a.Write("a/b", ""), keepsake.ErrNone)
	put(t, a, "a", "x")
	wantError(t, "P6: Mkdir", a.Mkdir("a"), keepsake.ErrAgain)
	wantError(t, "P6: Write", a.Write("a/b", "y"), keepsake.ErrKind)
	wantError(t, "P6: Remove", a.Remove(""), keepsake.ErrPath)
	wantEntries(t, a, 0, "", "a:1")
	wantFile(t, a, 0, "a", "x")
}

func TestNamesOfOneByte(t *testing.T) {
	const may = "abcdefghijklmnopqrstuvwxyz0123456789._-"
	for b := range 256 {
		a := emptyArchive(t)
		name := string([]byte{byte(b)})
		mkdir(t, a, "d")
		if strings.Contains(may, name) {
			put(t, a, "d/"+name, "x")
			wantFile(t, a, 0, "d/"+name, "x")
			wantEntries(t, a, 0, "d", name+":1")
			continue
		}
		for _, path := range []string{name, "d/" + name, name + "/d", "d" + name, name + "d"} {
			wantNoPath(t, a, path)
		}
		if name != "/" {
			wantNoPath(t, a, "d"+name+"d")
		}
		wantEntries(t, a, 0, "", "d/")
		wantEntries(t, a, 0, "d")
	}
}

func TestNamesOfOtherRunes(t *testing.T) {
	a := emptyArchive(t)
	for _, name := range []string{"é", "aé", "e\u0301", "ａ", "٣", "ß", "\u00a0", "\u200b", "\ufffd", "\xe9", "a\xff", "\xc1\xa1", "\xf0\x80\x80\xa1", "š", "\U0001d41a", "ı"} {
		wantNoPath(t, a, name)
		wantNoPath(t, a, "d/"+name)
	}
	wantEntries(t, a, 0, "")
}

func TestNamesOfEveryLength(t *testing.T) {
	a := emptyArchive(t)
	for n := 1; n <= 16; n++ {
		put(t, a, strings.Repeat("n", n), "x")
	}
	remove(t, a, "n")
	remove(t, a, "nn")
	for _, n := range []int{17, 18, 255, 256, 257, 272, 65552, 1 << 20} {
		wantNoPath(t, a, strings.Repeat("n", n))
		wantNoPath(t, a, "d/"+strings.Repeat("n", n))
		wantNoPath(t, a, strings.Repeat("n", n)+"/d")
	}
}

func TestPathsThatAreNone(t *testing.T) {
	a := emptyArchive(t)
	put(t, a, "a", "x")
	mkdir(t, a, "d")
	for _, path := range []string{
		"/", "//", "/a", "a/", "d/", "d//a", "/d/a", "d/a/", "a/A", "A/a", "d/a b", " a", "a ", "a\n", "a\x00", `d\a`, "a,b", "a:b", "a*", "a~", "`", "{", "@", "[", "^",
		strings.Repeat("/", 1<<20), strings.Repeat("a/", 8), strings.Repeat("a/", 8) + "a", strings.Repeat("d/", 1<<20) + "a",
	} {
		wantNoPath(t, a, path)
	}
	wantEntries(t, a, 0, "", "a:1", "d/")
	wantEntries(t, a, 0, "d")
}

func TestTheRootIsAPath(t *testing.T) {
	a := emptyArchive(t)
	wantEntries(t, a, 0, "")
	wantReadError(t, a, 0, "", keepsake.ErrKind)
	wantError(t, "P6: Write of the root", a.Write("", "x"), keepsake.ErrPath)
	wantError(t, "P6: Write of too much at the root", a.Write("", strings.Repeat("x", 1537)), keepsake.ErrPath)
	wantError(t, "P6: Mkdir of the root", a.Mkdir(""), keepsake.ErrPath)
	wantError(t, "P6: Remove of the root", a.Remove(""), keepsake.ErrPath)
}

func TestDotsAreNames(t *testing.T) {
	a := emptyArchive(t)
	mkdir(t, a, "..")
	put(t, a, "../.", "x")
	put(t, a, ".", "yy")
	wantEntries(t, a, 0, "", ".:2", "../")
	wantEntries(t, a, 0, "..", ".:1")
	wantFile(t, a, 0, "../.", "x")
	wantReadError(t, a, 0, "./..", keepsake.ErrKind)
}

func TestEightNamesBehindOneAnother(t *testing.T) {
	a := emptyArchive(t)
	name := strings.Repeat("z", 16)
	path := name
	for range 7 {
		mkdir(t, a, path)
		path += "/" + name
	}
	put(t, a, path, "deep")
	wantFile(t, a, 0, path, "deep")
	wantNoPath(t, a, path+"/a")
	wantListError(t, a, 0, path, keepsake.ErrKind)
	remove(t, a, path)
	mkdir(t, a, path)
	wantEntries(t, a, 0, path)
	wantNoPath(t, a, path+"/a")
}

func TestPathsAreGoneThroughFromTheRoot(t *testing.T) {
	a := emptyArchive(t)
	put(t, a, "f", "x")
	mkdir(t, a, "d")
	put(t, a, "d/f", "x")
	for path, want := range map[string]error{
		"n": keepsake.ErrNone, "n/n": keepsake.ErrNone, "n/f": keepsake.ErrNone, "d/n": keepsake.ErrNone, "d/n/f": keepsake.ErrNone, "d/d/f": keepsake.ErrNone, "n/n/n/n/n/n/n/n": keepsake.ErrNone,
		"f/n": keepsake.ErrKind, "f/f": keepsake.ErrKind, "f/n/n": keepsake.ErrKind, "d/f/n": keepsake.ErrKind, "d/f/n/n/n": keepsake.ErrKind,
	} {
		wantReadError(t, a, 0, path, want)
		wantListError(t, a, 0, path, want)
		wantError(t, "P6: Remove("+path+")", a.Remove(path), want)
		if path == "n" || path == "d/n" {
			continue
		}
		wantError(t, "P6: Write("+path+")", a.Write(path, "y"), want)
		wantError(t, "P6: Mkdir("+path+")", a.Mkdir(path), want)
		wantError(t, "P6: Write of too much at "+path, a.Write(path, strings.Repeat("x", 1537)), keepsake.ErrBig)
	}
	wantEntries(t, a, 0, "", "d/", "f:1")
	wantEntries(t, a, 0, "d", "f:1")
}

func TestFilesOfEverySize(t *testing.T) {
	a := emptyArchive(t)
	for _, n := range []int{0, 1, 95, 96, 97, 1535, 1536} {
		text := strings.Repeat("\xff\x00", n)[:n]
		put(t, a, "f", text)
		wantFile(t, a, 0, "f", text)
		wantEntries(t, a, 0, "", "f:"+strconv.Itoa(n))
	}
	mkdir(t, a, "d")
	for _, n := range []int{1537, 1600, 65536 + 5, 1 << 20} {
		for _, path := range []string{"f", "g", "d", "d/g", "f/g", "n/g"} {
			wantError(t, "P6: Write of too much", a.Write(path, strings.Repeat("x", n)), keepsake.ErrBig)
		}
	}
	wantFile(t, a, 0, "f", strings.Repeat("\xff\x00", 768))
	wantEntries(t, a, 0, "", "d/", "f:1536")
}

func TestWriteOverAFileAndADirectory(t *testing.T) {
	a := emptyArchive(t)
	mkdir(t, a, "d")
	put(t, a, "d/f", "long text")
	put(t, a, "d/f", "")
	wantFile(t, a, 0, "d/f", "")
	put(t, a, "d/f", "x")
	wantEntries(t, a, 0, "d", "f:1")
	wantError(t, "P6: Write over a directory", a.Write("d", "x"), keepsake.ErrKind)
	remove(t, a, "d/f")
	wantError(t, "P6: Write over an empty directory", a.Write("d", "x"), keepsake.ErrKind)
	wantEntries(t, a, 0, "", "d/")
}

func TestMkdirWhereSomethingStands(t *testing.T) {
	a := emptyArchive(t)
	mkdir(t, a, "d")
	put(t, a, "d/f", "x")
	wantError(t, "P6: Mkdir of a directory", a.Mkdir("d"), keepsake.ErrAgain)
	wantError(t, "P6: Mkdir of a file", a.Mkdir("d/f"), keepsake.ErrAgain)
	wantEntries(t, a, 0, "d", "f:1")
	wantFile(t, a, 0, "d/f", "x")
}

func TestRemove(t *testing.T) {
	a := emptyArchive(t)
	mkdir(t, a, "d")
	mkdir(t, a, "d/e")
	put(t, a, "d/f", "")
	wantError(t, "P6: Remove of a directory in which something stands", a.Remove("d"), keepsake.ErrBusy)
	remove(t, a, "d/f")
	wantError(t, "P6: Remove of a directory in which a directory stands", a.Remove("d"), keepsake.ErrBusy)
	wantError(t, "P6: Remove of what is gone", a.Remove("d/f"), keepsake.ErrNone)
	wantEntries(t, a, 0, "d", "e/")
	remove(t, a, "d/e")
	remove(t, a, "d")
	wantError(t, "P6: Remove of what is gone", a.Remove("d"), keepsake.ErrNone)
	wantReadError(t, a, 0, "d", keepsake.ErrNone)
	put(t, a, "d", "now a file")
	wantFile(t, a, 0, "d", "now a file")
}

// letter is the i-th of 39 names of one byte.
func letter(i int) string { return "abcdefghijklmnopqrstuvwxyz0123456789._-"[i : i+1] }

func TestSixteenNamesInADirectory(t *testing.T) {
	for _, dir := range []string{"", "d/"} {
		a := emptyArchive(t)
		if dir != "" {
			mkdir(t, a, "d")
		}
		for i := range 16 {
			if i%2 == 0 {
				put(t, a, dir+letter(i), "x")
			} else {
				mkdir(t, a, dir+letter(i))
			}
		}
		wantError(t, "P6: Write of a 17th", a.Write(dir+"q", ""), keepsake.ErrMany)
		wantError(t, "P6: Mkdir of a 17th", a.Mkdir(dir+"q"), keepsake.ErrMany)
		wantError(t, "P6: Write over a directory", a.Write(dir+"b", ""), keepsake.ErrKind)
		wantError(t, "P6: Mkdir over a directory", a.Mkdir(dir+"b"), keepsake.ErrAgain)
		put(t, a, dir+"a", "over")
		put(t, a, dir+"b/q", "elsewhere")
		remove(t, a, dir+"c")
		mkdir(t, a, dir+"q")
		wantError(t, "P6: Write of a 17th", a.Write(dir+"c", ""), keepsake.ErrMany)
		remove(t, a, dir+"q")
		put(t, a, dir+"c", "")
	}
}

// fillTree puts 256 names: 16 directories, and 16 in each of the first 15.
func fillTree(t *testing.T, a *keepsake.Archive) {
	t.Helper()
	for i := range 16 {
		mkdir(t, a, letter(i))
	}
	for i := range 240 {
		path := letter(i/16) + "/" + letter(i%16)
		if i%3 == 0 {
			mkdir(t, a, path)
		} else {
			put(t, a, path, "x")
		}
	}
}

func TestTwoHundredFiftySixNamesInTheTree(t *testing.T) {
	a := emptyArchive(t)
	fillTree(t, a)
	for range 3 { // what comes and goes must be counted both ways
		for _, path := range []string{"p/a", "a/a/a"} {
			wantError(t, "P6: Write of the 257th", a.Write(path, ""), keepsake.ErrMany)
			wantError(t, "P6: Mkdir of the 257th", a.Mkdir(path), keepsake.ErrMany)
		}
		put(t, a, "a/b", "over")
		wantError(t, "P6: Mkdir of what stands", a.Mkdir("a/b"), keepsake.ErrAgain)
		wantError(t, "P6: Remove of a directory in which something stands", a.Remove("a"), keepsake.ErrBusy)
		wantError(t, "P6: Remove of nothing", a.Remove("p/a"), keepsake.ErrNone)
		remove(t, a, "a/b")
		mkdir(t, a, "p/z")
		wantError(t, "P6: Write of the 257th", a.Write("a/b", ""), keepsake.ErrMany)
		remove(t, a, "p/z")
		put(t, a, "a/b", "again")
	}
}

func TestListIsInOrder(t *testing.T) {
	a := emptyArchive(t)
	for _, name := range []string{"b", "_", "a0", "a", "9", "10", "-", ".", "aa", "a-", "a_", "z", "0"} {
		put(t, a, name, name)
	}
	mkdir(t, a, "a.")
	wantEntries(t, a, 0, "", "-:1", ".:1", "0:1", "10:2", "9:1", "_:1", "a:1", "a-:2", "a./", "a0:2", "a_:2", "aa:2", "b:1", "z:1")
}

func TestListStopsWhenNoMoreIsWanted(t *testing.T) {
	a := emptyArchive(t)
	for i := range 5 {
		put(t, a, letter(i), "x")
	}
	for most := 1; most <= 6; most++ {
		told := ""
		a.List(0, "")(func(e keepsake.Entry, err error) bool {
			told += e.Name
			return len(told) < most
		})
		if want := "abcde"[:min(most, 5)]; told != want {
			t.Errorf("P11: no more than %d wanted, told %q", most, told)
		}
	}
}

func TestListGoneThroughAgainAndWhileItChanges(t *testing.T) {
	a := emptyArchive(t)
	for i := range 4 {
		put(t, a, letter(i), "x")
	}
	sequence := a.List(0, "")
	for range 2 {
		told := ""
		for e := range sequence {
			told += e.Name
			for range a.List(0, "") {
				told += "."
			}
		}
		if told != "a....b....c....d...." {
			t.Errorf("P11: gone through again: %q", told)
		}
	}
	told := ""
	for e, err := range sequence {
		told += e.Name
		wantError(t, "P11: List of a directory that changes", err, nil)
		remove(t, a, e.Name)
		put(t, a, "z"+e.Name, "new")
	}
	if told != "abcd" {
		t.Errorf("P11: a directory that changes: %q", told)
	}
	sequence(nil)
	a.List(0, "A")(nil)
}

func TestWhatGoesIntoTheTreeIsNotKept(t *testing.T) {
	a := emptyArchive(t)
	path, data := []byte("d/f"), []byte("text")
	mkdir(t, a, unsafe.String(&path[0], 1))
	put(t, a, unsafe.String(&path[0], 3), unsafe.String(&data[0], 4))
	put(t, a, "g", "y")
	put(t, a, "g", unsafe.String(&data[0], 4))
	sequence := a.List(0, unsafe.String(&path[0], 1))
	path[0], path[2], data[0] = 'x', 'x', 'x'
	wantEntries(t, a, 0, "", "d/", "g:4")
	wantEntries(t, a, 0, "d", "f:4")
	wantFile(t, a, 0, "d/f", "text")
	wantFile(t, a, 0, "g", "text")
	for e, err := range sequence {
		if e.Name != "f" || err != nil {
			t.Errorf("P2: a path that was handed in is kept: %v %v", e, err)
		}
	}
}

func TestArchivesKnowNothingOfEachOther(t *testing.T) {
	a, b := emptyArchive(t), emptyArchive(t)
	put(t, a, "f", "x")
	wantEntries(t, b, 0, "")
	mkdir(t, b, "f")
	wantEntries(t, a, 0, "", "f:1")
}

// treeModel is P5 and P6 told over again in the simplest way: all paths, a file's with its text ahead of which stands f, a directory's with d.
type treeModel map[string]string

var modelPath = regexp.MustCompile(`^[a-z0-9._-]{1,16}(/[a-z0-9._-]{1,16}){0,7}$`)

// way tells what is wrong with the directories on the way to a path.
func (m treeModel) way(path string) error {
	for i := range path {
		if path[i] != '/' {
			continue
		}
		switch what := m[path[:i]]; {
		case what == "":
			return keepsake.ErrNone
		case what[0] == 'f':
			return keepsake.ErrKind
		}
	}
	return nil
}

// in tells the names in a directory, in order.
func (m treeModel) in(dir string) []string {
	var names []string
	for path := range m {
		if i := strings.LastIndexByte(path, '/'); path[:max(i, 0)] == dir {
			names = append(names, path[i+1:])
		}
	}
	slices.Sort(names)
	return names
}

func (m treeModel) put(path, what string) error {
	dir := path[:max(strings.LastIndexByte(path, '/'), 0)]
	old := m[path]
	switch {
	case !modelPath.MatchString(path):
		return keepsake.ErrPath
	case len(what) > 1537:
		return keepsake.ErrBig
	case m.way(path) != nil:
		return m.way(path)
	case old != "" && what == "d":
		return keepsake.ErrAgain
	case old == "d":
		return keepsake.ErrKind
	case old == "" && (len(m.in(dir)) >= 16 || len(m) >= 256):
		return keepsake.ErrMany
	}
	m[path] = what
	return nil
}

func (m treeModel) remove(path string) error {
	switch {
	case !modelPath.MatchString(path):
		return keepsake.ErrPath
	case m.way(path) != nil:
		return m.way(path)
	case m[path] == "":
		return keepsake.ErrNone
	case len(m.in(path)) > 0:
		return keepsake.ErrBusy
	}
	delete(m, path)
	return nil
}

// wantModel tells that the tree (n is 0) or a snapshot is the model's.
func wantModel(t *testing.T, a *keepsake.Archive, n int, m treeModel) {
	t.Helper()
	dirs := []string{""}
	for path, what := range m {
		if what == "d" {
			dirs = append(dirs, path)
			wantReadError(t, a, n, path, keepsake.ErrKind)
		} else {
			wantFile(t, a, n, path, what[1:])
			wantListError(t, a, n, path, keepsake.ErrKind)
		}
	}
	for _, dir := range dirs {
		var want []string
		for _, name := range m.in(dir) {
			what := m[strings.TrimPrefix(dir+"/"+name, "/")]
			if what == "d" {
				want = append(want, name+"/")
			} else {
				want = append(want, name+":"+strconv.Itoa(len(what)-1))
			}
		}
		wantEntries(t, a, n, dir, want...)
	}
}

// somePath is mostly one of few, so that they meet; now and then it is none.
func somePath(r *rand.Rand, names int) string {
	path := letter(r.Intn(names))
	for r.Intn(3) > 0 {
		path += "/" + letter(r.Intn(names))
	}
	switch r.Intn(40) {
	case 0:
		return ""
	case 1:
		return path + "/"
	case 2:
		return path + "A"
	case 3:
		return path + strings.Repeat("n", r.Intn(18))
	}
	return path
}

func TestTreeAgainstModel(t *testing.T) {
	for seed := range int64(60) {
		r := rand.New(rand.NewSource(seed))
		names := []int{2, 3, 20}[seed%3]
		a, m := emptyArchive(t), treeModel{}
		for i := range 1200 {
			path := somePath(r, names)
			quoted := strconv.Quote(path)
			switch k := r.Intn(20); {
			case k < 7:
				data := strings.Repeat("x", r.Intn(5))
				if r.Intn(20) == 0 {
					data = strings.Repeat("y", 1530+r.Intn(12))
				}
				wantError(t, "P6: Write("+quoted+")", a.Write(path, data), m.put(path, "f"+data))
			case k < 16:
				wantError(t, "P6: Mkdir("+quoted+")", a.Mkdir(path), m.put(path, "d"))
			default:
				wantError(t, "P6: Remove("+quoted+")", a.Remove(path), m.remove(path))
			}
			if i%100 == 99 {
				wantModel(t, a, 0, m)
			}
			if t.Failed() {
				t.Fatalf("seed %d, step %d", seed, i)
			}
		}
	}
}
