"""Houses: tables and programs that change, asked again and again."""
