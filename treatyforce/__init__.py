"""In force: who is bound by a treaty, and on which days."""
