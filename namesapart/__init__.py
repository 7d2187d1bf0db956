"""Programs that make programs, and what their names mean."""
