"""Loginstacks: stacks of login rules, and what they tell whatever their modules tell."""
