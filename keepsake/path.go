package keepsake

import "strings"

const (
	longestName = 16
	mostDeep    = 8 // names that stand behind one another
)

// namesOf takes a path apart (P5); the root's has no names. The names share nothing with the path, so that they may be kept.
func namesOf(path string) ([]string, error) {
	if path == "" {
		return nil, nil
	}
	names := strings.SplitN(path, "/", mostDeep+1)
	if len(names) > mostDeep {
		return nil, ErrPath
	}
	for i, name := range names {
		if !isName(name) {
			return nil, ErrPath
		}
		names[i] = strings.Clone(name)
	}
	return names, nil
}

func isName(text string) bool {
	if len(text) < 1 || len(text) > longestName {
		return false
	}
	for _, r := range text {
		if !isOfNames(r) {
			return false
		}
	}
	return true
}

func isOfNames(r rune) bool {
	return r >= 'a' && r <= 'z' || r >= '0' && r <= '9' || r == '.' || r == '_' || r == '-'
}
