package warrant

// WrongPolicies: no call of the face asks for this alone, but P4 promises it.
var WrongPolicies = wrongPolicies
