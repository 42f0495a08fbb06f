"""What is told ahead: of rooms, and of tables that change."""
