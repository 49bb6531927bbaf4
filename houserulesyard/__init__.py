"""A house that keeps its rules, whole. Its one function is answers, in houserulesyard.house."""
