"""Programs and plans as texts."""
